"""webs: [50]."""

import random
import unittest
from fractions import Fraction

from onewhere.errors import NoPoint, NoRoad, NoSpot, NoWeb, WhereError
from onewhere.webs import is_web, long_of, nearest_spot, point_at
from tests.roads import nearest_by_the_words, some_web, walked
from tests.things import ANYTHING, BIG, OUTLANDISH, Prickly, fr, pt, pts, val, xy

LITTLE = Fraction(1, BIG)
CROSSINGS = pts((0, 0), (10, 0), (10, 10), (0, 10))
WEB = (
    CROSSINGS,
    (
        (0, 1, (), 2),
        (1, 2, pts((12, 3), (10, 5)), 1),
        (3, 0, pts((5, 5), (0, 5), (5, 5)), 2),
        (2, 0, (), 1),
    ),
)


def road(one=0, other=1, middle=(), ways=2):
    return (one, other, middle, ways)


def web_of(*roads, crossings=CROSSINGS):
    return (crossings, roads)


class IsWeb(unittest.TestCase):
    def no(self, thing):
        self.assertIs(is_web(thing), False, thing)

    def yes(self, thing):
        self.assertIs(is_web(thing), True, thing)

    def test_webs(self):
        for web in (WEB, web_of(), web_of(crossings=pts((0, 0))), web_of(road()), web_of(road(), road(), road(1, 0))):
            self.yes(web)

    def test_one_to_ten_crossings(self):
        for many in range(1, 11):
            self.yes(web_of(crossings=pts(*((x, 0) for x in range(many)))))
        for many in (0, 11, 12):
            self.no(web_of(crossings=pts(*((x, 0) for x in range(many)))))
        self.no(((), ()))

    def test_crossings_alike(self):
        self.no(web_of(crossings=pts((0, 0), (0, 0))))
        self.no(web_of(crossings=pts((1, "1/2"), (3, 3), (4, 4), (1, "1/2"))))
        self.yes(web_of(crossings=pts((1, "1/2"), ("1/2", 1), (1, 1), (1, "1/3"))))

    def test_crossings_beyond_the_land(self):
        for x, y in [(64, 0), (0, 64), (-1, 0), (0, -1), (-LITTLE, 3), (3, 64 + LITTLE), (BIG, 0), (64, 64)]:
            self.no(web_of(crossings=pts((1, 1), (x, y))))
            self.no(web_of(crossings=pts((x, y), (1, 1))))
        self.yes(web_of(crossings=pts((0, 0), (64 - LITTLE, 0), (0, 64 - LITTLE), (64 - LITTLE, 64 - LITTLE))))

    def test_crossings_that_are_no_points(self):
        for thing in [None, 0, (0, 0), [(0, 1), (0, 1)], ((2, 2), (0, 1)), ((0, 3), (0, 1)), ((True, 1), (0, 1)),
                      ((1, True), (0, 1)), ((0, 1),), ((0, 1), (0, 1), (0, 1)), ((1, -1), (0, 1)), Prickly()]:
            self.no(web_of(crossings=(thing,)))
            self.no(web_of(crossings=pts((5, 5)) + (thing,)))
        self.no((list(CROSSINGS), ()))
        self.no(({at: CROSSINGS[at] for at in range(4)}, ()))

    def test_none_to_fourteen_roads(self):
        for many in range(15):
            self.yes(web_of(*[road()] * many))
        for many in (15, 16, 100):
            self.no(web_of(*[road()] * many))

    def test_roads_from_a_crossing_to_itself(self):
        for number in range(4):
            self.no(web_of(road(number, number)))
            self.no(web_of(road(number, number, pts((5, 5), (6, 6)))))
        self.no(web_of(road(), road(1, 1)))

    def test_roads_to_a_crossing_that_there_is_not(self):
        for thing in (4, 5, -1, -4, BIG, None, "1", "", (1,), [1], 1.0, (), Prickly()):
            self.no(web_of(road(other=thing)))
            self.no(web_of(road(one=thing)))
            self.no(web_of(road(2, 3), road(one=thing, other=3)))
        self.yes(web_of(road(3, 0)))

    def test_truths_are_no_numbers(self):
        self.yes(web_of(road(1, 0)))
        for wrong in (road(True, 0), road(1, False), road(0, True), road(False, 1), road(ways=True)):
            self.no(web_of(wrong))

    def test_none_to_four_in_the_middle(self):
        corners = pts((5, 5), (6, 6), (7, 5), (6, 5), (5, 6), (1, 1))
        for many in range(5):
            self.yes(web_of(road(middle=corners[:many])))
        for many in (5, 6):
            self.no(web_of(road(middle=corners[:many])))

    def test_a_corner_alike_the_one_ahead(self):
        self.no(web_of(road(middle=pts((5, 5), (5, 5)))))
        self.no(web_of(road(middle=pts((5, 5), (6, 6), (6, 6), (7, 7)))))
        self.no(web_of(road(middle=pts((5, 5), (6, 6), (7, 7), (7, 7)))))
        self.yes(web_of(road(middle=pts((5, 5), (6, 6), (5, 5), (6, 6)))))

    def test_a_corner_alike_the_crossing_at_either_end(self):
        self.no(web_of(road(middle=pts((0, 0)))))
        self.no(web_of(road(middle=pts((10, 0)))))
        self.no(web_of(road(middle=pts((0, 0), (5, 5)))))
        self.no(web_of(road(middle=pts((5, 5), (10, 0)))))
        # Not beside it, and at other crossings, it may be so.
        self.yes(web_of(road(middle=pts((5, 5), (0, 0), (10, 0), (5, 5)))))
        self.yes(web_of(road(middle=pts((10, 0), (0, 0)))))
        self.yes(web_of(road(middle=pts((10, 10), (0, 10)))))

    def test_corners_that_are_no_points_of_the_land(self):
        for thing in [None, (0, 0), [(5, 1), (5, 1)], ((10, 2), (5, 1)), ((True, 1), (5, 1)), pt(64, 1), pt(1, 64),
                      pt(-1, 1), pt(1, -LITTLE), Prickly()]:
            for middle in ((thing,), (pt(5, 5), thing), (thing, pt(5, 5))):
                self.no(web_of(road(middle=middle)))
        for middle in ([], [pt(5, 5)], None, pt(5, 5), {}, "", 0, Prickly()):
            self.no(web_of(road(middle=middle)))

    def test_ways_other_than_1_and_2(self):
        for ways in (1, 2):
            self.yes(web_of(road(ways=ways)))
        for ways in (0, 3, -1, BIG, True, None, "1", "", (1,), [2], 1.0, 2.0, Prickly()):
            self.no(web_of(road(ways=ways)))

    def test_roads_that_have_other_parts(self):
        whole = road()
        for wrong in (whole[:3], whole + (1,), list(whole), (), None, 0, "road", {}, whole[::-1], (whole,), Prickly()):
            self.no(web_of(wrong))
            self.no(web_of(whole, wrong))
            self.no(web_of(wrong, whole))

    def test_webs_that_have_other_parts(self):
        crossings, roads = WEB
        for wrong in [list(WEB), (crossings,), (roads, crossings), (crossings, roads, ()), (crossings, list(roads)),
                      (crossings, None), (None, roads), {0: crossings, 1: roads}, (crossings, roads[0]), crossings,
                      roads, (crossings, {}), (crossings, ""), ("", roads), (Prickly(), Prickly()),
                      (crossings, Prickly())]:
            self.no(wrong)

    def test_of_anything(self):
        for thing in [(), *ANYTHING, *OUTLANDISH]:
            self.no(thing)

    def test_webs_by_chance(self):
        chance = random.Random(50)
        for _ in range(100):
            self.yes(some_web(chance))


class LongOf(unittest.TestCase):
    def test_piece_by_piece(self):
        self.assertEqual(long_of(WEB, 0), (10, 1))
        self.assertEqual(long_of(WEB, 1), (5 + 4 + 5, 1))
        self.assertEqual(long_of(WEB, 2), (10 + 5 + 5 + 10, 1))
        self.assertEqual(long_of(WEB, 3), (20, 1))

    def test_fractions(self):
        web = web_of(road(0, 1, pts(("1/3", "1/2"), ("1/7", "1/2"))))
        self.assertEqual(long_of(web, 0), fr(Fraction(5, 6) + Fraction(4, 21) + (10 - Fraction(1, 7)) + Fraction(1, 2)))

    def test_either_way_about_it_is_as_long(self):
        for number, (one, other, middle, ways) in enumerate(WEB[1]):
            self.assertEqual(long_of(web_of((other, one, middle[::-1], ways)), 0), long_of(WEB, number))

    def test_roads_that_are_none(self):
        for thing in [4, 5, -1, BIG, True, False, None, "0", (0,), [0], {}, 0.0, *OUTLANDISH]:
            for web in (WEB, web_of()):
                with self.assertRaises(WhereError) as told:
                    long_of(web, thing)
                self.assertIs(type(told.exception), NoRoad)
        for number in (0, 1):
            with self.assertRaises(NoRoad):
                long_of(web_of(), number)


class PointAt(unittest.TestCase):
    def test_at_the_begin_and_the_end(self):
        for number, (one, other, _, _) in enumerate(WEB[1]):
            self.assertEqual(point_at(WEB, (number, (0, 1))), CROSSINGS[one])
            self.assertEqual(point_at(WEB, (number, long_of(WEB, number))), CROSSINGS[other])

    def test_at_a_corner(self):
        self.assertEqual(point_at(WEB, (1, fr(5))), pt(12, 3))
        self.assertEqual(point_at(WEB, (1, fr(9))), pt(10, 5))
        self.assertEqual(point_at(WEB, (2, fr(10))), pt(5, 5))
        self.assertEqual(point_at(WEB, (2, fr(15))), pt(0, 5))
        self.assertEqual(point_at(WEB, (2, fr(20))), pt(5, 5))

    def test_anywhere(self):
        self.assertEqual(point_at(WEB, (0, fr("7/2"))), pt("7/2", 0))
        self.assertEqual(point_at(WEB, (1, fr(1))), pt("52/5", "3/5"))
        self.assertEqual(point_at(WEB, (1, fr(7))), pt(11, 4))
        self.assertEqual(point_at(WEB, (1, fr(10))), pt(10, 6))
        self.assertEqual(point_at(WEB, (2, fr(12))), pt(3, 5))
        self.assertEqual(point_at(WEB, (2, fr(18))), pt(3, 5))
        self.assertEqual(point_at(WEB, (3, fr(5))), pt("15/2", "15/2"))

    def test_by_chance(self):
        chance = random.Random(51)
        for _ in range(60):
            web = some_web(chance, below=chance.choice((1, 3)))
            for number in range(len(web[1])):
                far = val(long_of(web, number)) * Fraction(chance.randint(0, 12), 12)
                self.assertEqual(xy(point_at(web, (number, fr(far)))), walked(web, number, far))

    def test_spots_that_are_none(self):
        wrong = [
            (0, fr(-1)), (0, fr(-LITTLE)), (0, fr(10 + LITTLE)), (0, fr(11)), (1, fr(15)), (2, fr(31)), (3, fr(BIG)),
            (4, fr(0)), (-1, fr(0)), (True, fr(0)), (False, fr(0)), (None, fr(0)), ("0", fr(0)), ((0,), fr(0)),
            (0, 0), (0, (2, 2)), (0, (4, 2)), (0, (0, 2)), (0, (True, 1)), (0, (1, True)), (0, [1, 1]), (0, (1, -1)),
            (0, (1, 0)), (0, None), (0, "1"), (0,), (0, fr(1), fr(1)), [0, fr(1)], (fr(1), 0), {0: fr(1)}, (),
            (0, 1.0), (0, Prickly()), (Prickly(), fr(1)),
        ]
        for thing in [*wrong, *ANYTHING, *OUTLANDISH]:
            with self.assertRaises(WhereError) as told:
                point_at(WEB, thing)
            self.assertIs(type(told.exception), NoSpot, thing)
        with self.assertRaises(NoSpot):
            point_at(web_of(), (0, fr(0)))


class NearestSpot(unittest.TestCase):
    def test_beside_a_piece(self):
        self.assertEqual(nearest_spot(WEB, pt(4, -3)), ((9, 1), 0, (4, 1)))
        self.assertEqual(nearest_spot(WEB, pt(13, 7)), ((9, 1), 1, (11, 1)))

    def test_on_a_road(self):
        self.assertEqual(nearest_spot(WEB, pt(7, 0)), ((0, 1), 0, (7, 1)))
        self.assertEqual(nearest_spot(WEB, pt(11, 4)), ((0, 1), 1, (7, 1)))

    def test_at_a_corner_and_at_a_crossing(self):
        self.assertEqual(nearest_spot(WEB, pt(15, 3)), ((9, 1), 1, (5, 1)))
        self.assertEqual(nearest_spot(web_of(road()), pt(-3, 4)), ((25, 1), 0, (0, 1)))
        self.assertEqual(nearest_spot(web_of(road()), pt(13, -4)), ((25, 1), 0, (10, 1)))

    def test_of_several_as_near_the_least_road(self):
        self.assertEqual(nearest_spot(WEB, pt(0, 0)), ((0, 1), 0, (0, 1)))
        self.assertEqual(nearest_spot(WEB, pt(10, 10)), ((0, 1), 1, (14, 1)))
        self.assertEqual(nearest_spot(web_of(road(2, 3), road(0, 1)), pt(5, 5)), ((25, 1), 0, (5, 1)))
        self.assertEqual(nearest_spot(web_of(road(1, 0), road(0, 1)), pt(2, 5)), ((25, 1), 0, (8, 1)))

    def test_of_several_as_near_on_one_road_the_least_far(self):
        # Twice over the way between (0, 5) and (5, 5).
        self.assertEqual(nearest_spot(WEB, pt(2, 5)), ((0, 1), 2, (13, 1)))
        self.assertEqual(nearest_spot(web_of(road(3, 0, pts((5, 5), (0, 5), (5, 5)))), pt(5, 5)), ((0, 1), 0, (10, 1)))
        hook = web_of(road(0, 1, pts((0, 8), (8, 8))))
        self.assertEqual(nearest_spot(hook, pt(4, 4)), ((16, 1), 0, (4, 1)))

    def test_nearer_goes_ahead_of_a_lesser_road(self):
        self.assertEqual(nearest_spot(web_of(road(0, 1), road(3, 2)), pt(5, 6)), ((16, 1), 1, (5, 1)))

    def test_near_by_less_than_the_tops_tell(self):
        # As Python compares tuples (1, 4) is less than (4, 25).
        web = web_of(road(0, 1), road(2, 3), crossings=pts((0, 0), (9, 0), (0, "9/10"), (9, "9/10")))
        self.assertEqual(nearest_spot(web, pt(3, "1/2")), ((4, 25), 1, (3, 1)))
        self.assertEqual(nearest_spot(web, pt(3, "2/5")), ((4, 25), 0, (3, 1)))

    def test_points_beyond_the_land_too(self):
        self.assertEqual(nearest_spot(WEB, pt(-100, 5)), ((10000, 1), 2, (15, 1)))
        self.assertEqual(nearest_spot(WEB, pt(BIG, 0))[1:], (1, (5, 1)))

    def test_none_where_there_are_no_roads(self):
        self.assertIsNone(nearest_spot(web_of(), pt(1, 1)))
        self.assertIsNone(nearest_spot(web_of(crossings=pts((1, 1))), pt(1, 1)))

    def test_the_off_is_how_far_the_spots_point_is(self):
        chance = random.Random(52)
        for _ in range(150):
            web = some_web(chance, below=chance.choice((1, 2)))
            point = (Fraction(chance.randint(-4, 40), 4), Fraction(chance.randint(-4, 40), 4))
            told = nearest_spot(web, pt(*point))
            expected = nearest_by_the_words(web, point)
            if expected is None:
                self.assertIsNone(told)
                continue
            self.assertIs(type(told), tuple)
            self.assertEqual((val(told[0]), told[1], val(told[2])), expected, (web, point))
            x, y = xy(point_at(web, told[1:]))
            self.assertEqual((x - point[0]) ** 2 + (y - point[1]) ** 2, val(told[0]))

    def test_no_point(self):
        for web in (WEB, web_of()):
            for thing in [(), (1, 1), [(0, 1), (0, 1)], ((True, 1), (0, 1)), ((2, 2), (0, 1)), *ANYTHING, *OUTLANDISH]:
                with self.assertRaises(WhereError) as told:
                    nearest_spot(web, thing)
                self.assertIs(type(told.exception), NoPoint)


class NoWebs(unittest.TestCase):
    def test_first_the_web(self):
        wrong = [(), (CROSSINGS, [road()]), web_of(road(0, 0)), web_of(road(0, 9)), *ANYTHING, *OUTLANDISH]
        for thing in wrong:
            for ask, good in ((long_of, 0), (point_at, (0, (0, 1))), (nearest_spot, pt(1, 1))):
                for other in (good, None):
                    with self.assertRaises(WhereError) as told:
                        ask(thing, other)
                    self.assertIs(type(told.exception), NoWeb)
