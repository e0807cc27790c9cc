"""routes: [60] and [61]."""

import itertools
import random
import unittest

from onewhere.errors import NoClosed, NoSpot, NoWeb, WhereError
from onewhere.routes import is_route, least, prices, route, turns
from onewhere.webs import long_of
from tests.roads import (
    all_routes, is_route_by_the_words, leg, long_of_legs, questions, rank, spot, way_along,
)
from tests.things import ANYTHING, BIG, OUTLANDISH, Prickly, fr, pts, val

# A square of roads, 0 to 3, about which one may go one way only on road 1; road 4 goes off it, road 5
# comes back to the square from there, one way, by the way of a corner; crossing 5 has no roads.
WEB = (
    pts((10, 10), (20, 10), (20, 20), (10, 20), (30, 10), (50, 50)),
    (
        (0, 1, (), 2),
        (1, 2, (), 1),
        (2, 3, (), 2),
        (3, 0, (), 2),
        (1, 4, (), 2),
        (4, 2, pts((30, 20)), 1),
    ),
)
# From crossing 0 to crossing 3 two ways over another crossing, a longer road, and one as long as both ways.
EVEN = (
    pts((0, 0), (4, 0), (0, 4), (4, 4)),
    ((0, 2, (), 2), (2, 3, (), 2), (0, 1, (), 2), (1, 3, (), 2), (0, 3, pts((0, 5)), 2), (3, 0, pts((1, 4)), 2)),
)


class Least(unittest.TestCase):
    def goes(self, web, start, goal, legs, closed=()):
        """The route is this one, its long the least, and it is a route."""
        self.assertEqual(route(web, start, goal, closed=closed), legs)
        self.assertEqual(least(web, start, goal, closed=closed), fr(long_of_legs(legs)))
        self.assertIs(is_route(web, start, goal, legs, closed=closed), True)

    def none(self, web, start, goal, closed=()):
        self.assertIsNone(route(web, start, goal, closed=closed))
        self.assertIsNone(least(web, start, goal, closed=closed))

    def test_on_one_road_in_either_order(self):
        self.goes(WEB, spot(0, 2), spot(0, 7), (leg(0, 2, 7),))
        self.goes(WEB, spot(0, 7), spot(0, 2), (leg(0, 7, 2),))
        self.goes(WEB, spot(1, "1/3"), spot(1, "1/2"), (leg(1, "1/3", "1/2"),))

    def test_behind_one_another_on_a_road_of_one_way(self):
        about = (leg(2, 0, 10), leg(3, 0, 10), leg(0, 0, 10))
        self.goes(WEB, spot(1, 7), spot(1, 2), (leg(1, 7, 10), *about, leg(1, 0, 2)))
        self.goes(WEB, spot(1, 10), spot(1, 0), about)

    def test_over_several_roads(self):
        self.goes(WEB, spot(0, 8), spot(2, 4), (leg(0, 8, 10), leg(1, 0, 10), leg(2, 0, 4)))
        self.goes(WEB, spot(0, 3), spot(2, 4), (leg(0, 3, 0), leg(3, 10, 0), leg(2, 10, 4)))
        self.goes(WEB, spot(2, 4), spot(0, 3), (leg(2, 4, 10), leg(3, 0, 10), leg(0, 0, 3)))
        self.goes(WEB, spot(0, 3), spot(3, 1), (leg(0, 3, 0), leg(3, 10, 1)))

    def test_roads_of_one_way_are_not_gone_back(self):
        back = (leg(3, 0, 10), leg(0, 0, 10))
        self.goes(WEB, spot(2, 0), spot(4, 0), (leg(2, 0, 10), *back))
        self.goes(WEB, spot(2, 1), spot(5, 1), (leg(2, 1, 10), *back, leg(4, 0, 10), leg(5, 0, 1)))
        self.goes(WEB, spot(5, 19), spot(4, 10), (leg(5, 19, 20), leg(2, 0, 10), *back, leg(4, 0, 10)))

    def test_from_and_to_crossings(self):
        self.goes(WEB, spot(0, 0), spot(0, 10), (leg(0, 0, 10),))
        self.goes(WEB, spot(3, 10), spot(4, 0), (leg(0, 0, 10),))
        self.goes(WEB, spot(0, 10), spot(3, 0), (leg(0, 10, 0), leg(3, 10, 0)))
        self.goes(WEB, spot(0, 10), spot(3, 0), (leg(1, 0, 10), leg(2, 0, 10)), closed=(0,))
        self.goes(WEB, spot(0, 10), spot(2, 5), (leg(1, 0, 10), leg(2, 0, 5)))

    def test_a_spot_at_a_crossing_of_several_roads(self):
        at_crossing = (spot(0, 10), spot(1, 0), spot(4, 0))
        for start, goal in itertools.product(at_crossing, repeat=2):
            self.goes(WEB, start, goal, ())
        for start in at_crossing:
            self.goes(WEB, start, spot(2, 5), (leg(1, 0, 10), leg(2, 0, 5)))
            self.goes(WEB, spot(3, 5), start, (leg(3, 5, 10), leg(0, 0, 10)))
            self.assertEqual(prices(WEB, start), prices(WEB, at_crossing[0]))

    def test_from_a_spot_to_itself(self):
        for place in (spot(0, 0), spot(0, 3), spot(1, "7/3"), spot(5, 20)):
            for closed in ((), (0,), (1, 5), (0, 1, 2, 3, 4, 5)):
                self.goes(WEB, place, place, (), closed)

    def test_to_one_at_the_same_crossing_be_roads_closed_or_not(self):
        for closed in ((), (0,), (1,), (0, 1), (0, 1, 4), (0, 1, 2, 3, 4, 5)):
            self.goes(WEB, spot(0, 10), spot(1, 0), (), closed)
            self.goes(WEB, spot(4, 0), spot(0, 10), (), closed)

    def test_closed_roads_are_not_gone(self):
        self.goes(WEB, spot(0, 3), spot(2, 4), (leg(0, 3, 0), leg(3, 10, 0), leg(2, 10, 4)), closed=(1,))
        legs = (leg(0, 9, 10), leg(4, 0, 10), leg(5, 0, 20), leg(2, 0, 1))
        self.goes(WEB, spot(0, 9), spot(2, 1), legs, closed=(1, 3))
        self.none(WEB, spot(0, 3), spot(2, 4), closed=(1, 3, 5))
        self.none(WEB, spot(0, 3), spot(0, 4), closed=(0,))

    def test_from_within_a_closed_road(self):
        for goal in (spot(0, 4), spot(0, 0), spot(0, 10), spot(1, 0), spot(2, 5)):
            self.none(WEB, spot(0, 3), goal, closed=(0,))
            self.none(WEB, spot(0, 3), goal, closed=(0, 5))
        self.assertEqual(prices(WEB, spot(0, 3), closed=(0,)), (None,) * 6)

    def test_to_within_a_closed_road(self):
        for start in (spot(0, 4), spot(0, 0), spot(0, 10), spot(1, 0), spot(2, 5)):
            self.none(WEB, start, spot(0, 3), closed=(0,))

    def test_from_the_crossing_of_a_closed_road(self):
        self.goes(WEB, spot(0, 0), spot(3, 4), (leg(3, 10, 4),), closed=(0,))
        self.none(WEB, spot(0, 0), spot(0, 10), closed=(0,))
        self.goes(WEB, spot(0, 10), spot(0, 0), (leg(1, 0, 10), leg(2, 0, 10), leg(3, 0, 10)), closed=(0,))
        self.goes(WEB, spot(2, 5), spot(0, 0), (leg(2, 5, 10), leg(3, 0, 10)), closed=(0,))

    def test_none_where_there_is_none(self):
        self.none(WEB, spot(2, 5), spot(4, 5), closed=(0,))
        self.none(WEB, spot(1, 5), spot(1, 4), closed=(2,))
        one_way = (pts((0, 0), (5, 0)), ((0, 1, (), 1),))
        self.none(one_way, spot(0, 5), spot(0, 0))
        self.none(one_way, spot(0, 3), spot(0, 2))
        two_parts = (pts((0, 0), (5, 0), (0, 9), (5, 9)), ((0, 1, (), 2), (2, 3, (), 2)))
        self.none(two_parts, spot(0, 3), spot(1, 3))

    def test_roads_that_cross_without_meeting(self):
        web = (pts((0, 5), (10, 5), (5, 0), (5, 10)), ((0, 1, (), 2), (2, 3, (), 2)))
        self.none(web, spot(0, 5), spot(1, 5))
        over_crossing = (pts((0, 0), (10, 0), (5, 0), (5, 5)), ((0, 1, (), 2), (2, 3, (), 2)))
        self.none(over_crossing, spot(0, 5), spot(1, 0))

    def test_of_several_the_fewest_legs(self):
        self.assertEqual([val(long_of(EVEN, at)) for at in range(6)], [4, 4, 4, 4, 10, 8])
        self.goes(EVEN, spot(0, 0), spot(3, 4), (leg(5, 8, 0),))
        self.goes(EVEN, spot(3, 4), spot(0, 0), (leg(5, 0, 8),))

    def test_of_these_the_least(self):
        self.goes(EVEN, spot(2, 0), spot(3, 4), (leg(0, 0, 4), leg(1, 0, 4)), closed=(5,))
        self.goes(EVEN, spot(3, 4), spot(2, 0), (leg(1, 4, 0), leg(0, 4, 0)), closed=(5,))
        # Two roads alike: the one with the lesser number.
        twin = (pts((0, 0), (4, 0), (8, 0)), ((1, 2, (), 2), (0, 1, (), 2), (0, 1, (), 2), (1, 0, (), 2)))
        self.goes(twin, spot(3, 4), spot(0, 2), (leg(1, 0, 4), leg(0, 0, 2)))
        self.goes(twin, spot(3, 4), spot(0, 2), (leg(2, 0, 4), leg(0, 0, 2)), closed=(1,))
        self.goes(twin, spot(3, 4), spot(0, 2), (leg(3, 4, 0), leg(0, 0, 2)), closed=(1, 2))

    def test_of_these_the_least_begin_and_end(self):
        # From the middle of a road to the middle of the one across, either way about.
        self.goes(WEB, spot(0, 5), spot(2, 5), (leg(0, 5, 0), leg(3, 10, 0), leg(2, 10, 5)))
        ring = (pts((0, 0), (6, 0)), ((0, 1, (), 2), (0, 1, pts((3, 3)), 2)))
        self.assertEqual(val(long_of(ring, 1)), 12)
        self.goes(ring, spot(0, 3), spot(1, 6), (leg(0, 3, 0), leg(1, 0, 6)))
        turned = (pts((0, 0), (6, 0)), ((1, 0, (), 2), (0, 1, pts((3, 3)), 2)))
        self.goes(turned, spot(0, 3), spot(1, 6), (leg(0, 3, 0), leg(1, 12, 6)))
        # The second leg tells, and fractions come by their size: a half is more than a third.
        self.goes(ring, spot(0, "1/2"), spot(1, "13/2"), (leg(0, "1/2", 0), leg(1, 0, "13/2")))

    def test_long_by_size_not_by_tops(self):
        # 7, 20/3 and 13/2 long: as Python compares tuples (7, 1) is the least of them.
        web = (pts((0, 0), (6, 0)), tuple((0, 1, pts((3, up)), 2) for up in ("1/2", "1/3", "1/4")))
        self.goes(web, spot(0, 0), spot(1, "20/3"), (leg(2, 0, "13/2"),))

    def test_longer_by_fewer_roads_is_not_least(self):
        web = (pts((0, 0), (9, 0), (4, 0)), ((0, 1, pts((4, 9)), 2), (0, 2, (), 2), (2, 1, (), 2)))
        self.goes(web, spot(0, 0), spot(0, val(long_of(web, 0))), (leg(1, 0, 4), leg(2, 0, 5)))
        self.goes(web, spot(0, 1), spot(0, 26), (leg(0, 1, 0), leg(1, 0, 4), leg(2, 0, 5), leg(0, 27, 26)))
        self.goes(web, spot(0, 5), spot(0, 10), (leg(0, 5, 10),))

    def test_against_all_routes(self):
        found = {None: 0, 0: 0, 1: 0, 2: 0, 3: 0}
        for web, start, goal, closed in questions(60, 500):
            best = min(all_routes(web, start, goal, closed), key=rank, default=None)
            told = route(web, start, goal, closed=closed)
            self.assertEqual(told, best, (web, start, goal, closed))
            self.assertEqual(least(web, start, goal, closed=closed), None if best is None else fr(long_of_legs(best)))
            many = None if best is None else min(3, len(best))
            found[many] += 1
        self.assertGreater(min(found.values()), 20, found)

    def test_answers_of_the_kinds_told(self):
        told = route(WEB, spot(0, 3), spot(2, 4))
        self.assertIs(type(told), tuple)
        for part in told:
            self.assertIs(type(part), tuple)
            self.assertEqual((type(part[0]), val(part[1]) >= 0, val(part[2]) >= 0), (int, True, True))
        self.assertEqual(least(WEB, spot(0, 3), spot(0, 3)), (0, 1))


class Prices(unittest.TestCase):
    def test_each_crossing(self):
        self.assertEqual(prices(WEB, spot(0, 3)), (fr(3), fr(7), fr(17), fr(13), fr(17), None))
        self.assertEqual(prices(WEB, spot(1, 3)), (fr(27), fr(37), fr(7), fr(17), fr(47), None))
        self.assertEqual(prices(WEB, spot(4, 10)), (fr(20), fr(10), fr(20), fr(30), fr(0), None))

    def test_closed(self):
        self.assertEqual(prices(WEB, spot(0, 3), closed=(1,)), (fr(3), fr(7), fr(23), fr(13), fr(17), None))
        self.assertEqual(prices(WEB, spot(0, 3), closed=(1, 2, 3, 4)), (fr(3), fr(7), None, None, None, None))
        self.assertEqual(prices(WEB, spot(0, 0), closed=(0, 3)), (fr(0), None, None, None, None, None))
        self.assertEqual(prices(WEB, spot(0, 0), closed=(0, 1, 2, 3, 4, 5)), (fr(0), None, None, None, None, None))

    def test_the_price_of_a_crossing_is_the_least_long_to_a_spot_there(self):
        for web, start, _, closed in questions(61, 120):
            told = prices(web, start, closed=closed)
            self.assertIs(type(told), tuple)
            self.assertEqual(len(told), len(web[0]))
            seen = set()
            for number, (one, other, _, _) in enumerate(web[1]):
                for crossing, far in ((one, (0, 1)), (other, long_of(web, number))):
                    seen.add(crossing)
                    self.assertEqual(least(web, start, (number, far), closed=closed), told[crossing])
            for crossing in range(len(web[0])):
                if crossing not in seen:
                    self.assertIsNone(told[crossing])


class IsRoute(unittest.TestCase):
    START, GOAL = spot(0, 3), spot(2, 4)
    LEGS = (leg(0, 3, 10), leg(1, 0, 10), leg(2, 0, 4))

    def yes(self, legs, start=START, goal=GOAL, closed=()):
        self.assertIs(is_route(WEB, start, goal, legs, closed=closed), True)

    def no(self, legs, start=START, goal=GOAL, closed=()):
        self.assertIs(is_route(WEB, start, goal, legs, closed=closed), False, legs)
        self.assertIsNone(turns(WEB, start, goal, legs, closed=closed))

    def test_routes(self):
        self.yes(self.LEGS)
        self.yes((leg(0, 3, 0), leg(3, 10, 0), leg(2, 10, 4)))

    def test_longer_ones_and_rounds_are_routes_too(self):
        self.yes((leg(0, 3, 10), leg(4, 0, 10), leg(5, 0, 20), leg(2, 0, 4)))
        about = (leg(1, 0, 10), leg(2, 0, 10), leg(3, 0, 10), leg(0, 0, 10))
        self.yes(self.LEGS[:1] + about * 3 + self.LEGS[1:])
        self.yes(about, spot(1, 0), spot(0, 10))
        self.yes(about, spot(1, 0), spot(1, 0))

    def test_a_leg_turned_about(self):
        self.no((leg(0, 10, 3),) + self.LEGS[1:])
        self.no((self.LEGS[0], leg(1, 10, 0), self.LEGS[2]))
        self.no(self.LEGS[:2] + (leg(2, 4, 0),))
        self.no((leg(0, 3, 0), leg(3, 0, 10), leg(2, 10, 4)))

    def test_a_leg_left_out(self):
        for at in range(3):
            self.no(self.LEGS[:at] + self.LEGS[at + 1:])
        self.no(())

    def test_a_leg_twice(self):
        for at in range(3):
            self.no(self.LEGS[:at + 1] + self.LEGS[at:])

    def test_a_leg_of_another_road(self):
        self.no((self.LEGS[0], leg(3, 0, 10), self.LEGS[2]))
        self.no((self.LEGS[0], leg(4, 0, 10), self.LEGS[2]))
        self.no((leg(2, 3, 10),) + self.LEGS[1:])
        self.no(self.LEGS[:2] + (leg(3, 0, 4),))
        for number in (6, 7, -1, BIG, True, None, "1", (1,), [1], Prickly()):
            self.no((self.LEGS[0], (number, fr(0), fr(10)), self.LEGS[2]))

    def test_another_far(self):
        self.no((leg(0, 2, 10),) + self.LEGS[1:])
        self.no((leg(0, 3, 9),) + self.LEGS[1:])
        self.no((leg(0, 0, 10),) + self.LEGS[1:])
        self.no((self.LEGS[0], leg(1, 0, 9), self.LEGS[2]))
        self.no((self.LEGS[0], leg(1, 1, 10), self.LEGS[2]))
        self.no(self.LEGS[:2] + (leg(2, 0, 5),))
        self.no(self.LEGS[:2] + (leg(2, 0, 10),))
        self.no(self.LEGS[:2] + (leg(2, 1, 4),))

    def test_fars_that_are_none(self):
        for far in (fr(11), fr(-1), 3, None, (6, 2), (0, 2), (True, 1), (3, True), [3, 1], "3", (3, -1), (3, 0), (),
                    3.0, Prickly(), (Prickly(), 1)):
            self.no(((0, far, fr(10)),) + self.LEGS[1:])
            self.no(((0, fr(3), far),) + self.LEGS[1:])
            self.no(self.LEGS[:2] + ((2, fr(0), far),))

    def test_from_and_to_alike(self):
        self.no((leg(0, 3, 3),), spot(0, 3), spot(0, 3))
        self.no((leg(0, 3, 3),) + self.LEGS)
        self.no((leg(4, 0, 0),), spot(0, 10), spot(4, 0))
        self.no(self.LEGS[:1] + (leg(4, 0, 0),) + self.LEGS[1:])

    def test_two_legs_behind_one_another_of_one_road(self):
        self.no((leg(0, 3, 5), leg(0, 5, 10)) + self.LEGS[1:])
        self.no((leg(0, 3, 0), leg(0, 0, 10)) + self.LEGS[1:])
        self.no((self.LEGS[0], leg(1, 0, 5), leg(1, 5, 10), self.LEGS[2]))
        self.no(self.LEGS[:2] + (leg(2, 0, 10), leg(2, 10, 4)))
        self.no((self.LEGS[0], leg(4, 0, 10), leg(4, 10, 0)) + self.LEGS[1:])

    def test_against_a_road_of_one_way(self):
        self.no((leg(2, 4, 0), leg(1, 10, 0), leg(0, 10, 3)), spot(2, 4), spot(0, 3))
        self.no((leg(1, 7, 2),), spot(1, 7), spot(1, 2))
        self.yes((leg(1, 2, 7),), spot(1, 2), spot(1, 7))
        self.yes((leg(0, 7, 2),), spot(0, 7), spot(0, 2))

    def test_on_a_closed_road(self):
        for closed in ((0,), (1,), (2,), (0, 1, 2), (1, 5)):
            self.no(self.LEGS, closed=closed)
        for closed in ((), (3,), (4, 5), (3, 4, 5)):
            self.yes(self.LEGS, closed=closed)

    def test_to_or_from_another_spot(self):
        for other in (spot(2, 5), spot(2, 0), spot(0, 4), spot(3, 4), spot(1, 10)):
            self.no(self.LEGS, goal=other)
        for other in (spot(0, 4), spot(0, 0), spot(0, 10), spot(4, 3), spot(1, 0)):
            self.no(self.LEGS, start=other)

    def test_from_or_to_a_crossing_where_the_spot_lies(self):
        legs = (leg(1, 0, 10), leg(2, 0, 10))
        for start in (spot(0, 10), spot(1, 0), spot(4, 0)):
            for goal in (spot(2, 10), spot(3, 0)):
                self.yes(legs, start, goal)
        self.no(legs, spot(0, 0), spot(2, 10))
        self.no(legs, spot(0, 10), spot(3, 10))
        # Spots of closed roads, but at a crossing.
        self.yes(legs, spot(0, 10), spot(3, 0), closed=(0, 3))

    def test_no_leg_at_all(self):
        for closed in ((), (0,), (0, 1, 2, 3, 4, 5)):
            self.yes((), spot(0, 3), spot(0, 3), closed)
            self.yes((), spot(0, 10), spot(4, 0), closed)
            self.no((), spot(0, 3), spot(0, 4), closed)
            self.no((), spot(0, 0), spot(0, 10), closed)

    def test_legs_that_meet_without_a_crossing(self):
        web = (pts((0, 5), (10, 5), (5, 0), (5, 10)), ((0, 1, (), 2), (2, 3, (), 2)))
        self.assertIs(is_route(web, spot(0, 0), spot(1, 10), (leg(0, 0, 5), leg(1, 5, 10))), False)

    def test_lists_in_the_place_of_tuples(self):
        self.no(list(self.LEGS))
        self.no([])
        self.no([], spot(0, 3), spot(0, 3))
        for at in range(3):
            self.no(self.LEGS[:at] + (list(self.LEGS[at]),) + self.LEGS[at + 1:])
        self.no(((0, [3, 1], fr(10)),) + self.LEGS[1:])

    def test_legs_that_have_other_parts(self):
        for wrong in [(0, fr(3)), (0, fr(3), fr(10), fr(10)), (), None, 0, {}, "leg", (fr(3), fr(10), 0),
                      (self.LEGS[0],), Prickly(), (Prickly(),) * 3]:
            self.no((wrong,) + self.LEGS[1:])
            self.no((wrong,) + self.LEGS)
            self.no(self.LEGS + (wrong,))
        self.no(self.LEGS[0], spot(0, 3), spot(0, 10))
        self.no((self.LEGS,))

    def test_of_anything(self):
        for thing in [*ANYTHING, *OUTLANDISH]:
            self.no(thing)
            self.no(thing, spot(0, 3), spot(0, 3))
        self.no(self.LEGS[:1] * 600)

    def test_one_thing_otherwise_against_the_words(self):
        chance = random.Random(62)
        found = {True: 0, False: 0}
        for web, start, goal, closed in questions(63, 80):
            routes = sorted(all_routes(web, start, goal), key=rank)[:6]
            for legs in routes:
                for other in [legs, *self.otherwise(chance, web, legs)]:
                    worth = is_route_by_the_words(web, start, goal, other, closed)
                    self.assertIs(is_route(web, start, goal, other, closed=closed), worth, (web, start, goal, other))
                    self.assertEqual(turns(web, start, goal, other, closed=closed) is None, not worth)
                    found[worth] += 1
        self.assertGreater(min(found.values()), 200, found)

    def otherwise(self, chance, web, legs):
        """The legs with one thing otherwise, whatever that comes to."""
        for at, (number, begin, end) in enumerate(legs):
            yield legs[:at] + legs[at + 1:]
            yield legs[:at + 1] + legs[at:]
            yield legs[:at] + ((number, end, begin),) + legs[at + 1:]
            other = chance.randrange(len(web[1]))
            far = long_of(web, other)
            yield legs[:at] + ((other, (0, 1), far),) + legs[at + 1:]
            yield legs[:at] + ((other, far, (0, 1)),) + legs[at + 1:]
            yield legs[:at] + ((number, begin, fr(val(end) / 2)),) + legs[at + 1:]
            yield legs[:at + 1] + ((other, (0, 1), far), (other, far, (0, 1))) + legs[at + 1:]


class Turns(unittest.TestCase):
    # A crossing in the middle of eight others, to the right of it, above that, and so on to the left about.
    AROUND = ((20, 10), (20, 20), (10, 20), (0, 20), (0, 10), (0, 0), (10, 0), (20, 0))
    STAR = (pts((10, 10), *AROUND), tuple((0, number, (), 2) for number in range(1, 9)))

    def long(self, number):
        return val(long_of(self.STAR, number))

    def at_middle(self, one, other):
        """What is done from one of the eight over the middle to another one."""
        legs = (leg(one, self.long(one), 0), leg(other, 0, self.long(other)))
        return turns(self.STAR, spot(one, self.long(one)), spot(other, self.long(other)), legs)

    def test_at_a_crossing(self):
        for one in range(8):
            # To come from the right and go on to where it is up and right is to turn to the right.
            for behind, word in enumerate(["right"] * 3 + ["on"] + ["left"] * 3, start=1):
                self.assertEqual(self.at_middle(one, (one + behind) % 8), (word,), (one, behind))

    def test_by_the_pieces_at_the_crossing_not_by_the_roads_ends(self):
        # Both roads leave the crossing upwards or downwards, and only then go to their ends.
        web = (
            pts((10, 10), (0, 0), (20, 0)),
            (
                (1, 0, pts((10, 0)), 2),
                (0, 2, pts((10, 20)), 2),
                (2, 0, pts((15, 10)), 2),
                (0, 1, pts((5, 10)), 2),
                (0, 1, pts((10, 5)), 2),
            ),
        )
        longs = [val(long_of(web, number)) for number in range(5)]
        self.assertEqual(turns(web, spot(0, 0), spot(1, longs[1]), (leg(0, 0, 20), leg(1, 0, longs[1]))), ("on",))
        self.assertEqual(turns(web, spot(0, 0), spot(2, 0), (leg(0, 0, 20), leg(2, longs[2], 0))), ("right",))
        self.assertEqual(turns(web, spot(0, 0), spot(3, longs[3]), (leg(0, 0, 20), leg(3, 0, longs[3]))), ("left",))
        self.assertEqual(turns(web, spot(0, 0), spot(4, longs[4]), (leg(0, 0, 20), leg(4, 0, longs[4]))), ("back",))
        self.assertEqual(turns(web, spot(2, 0), spot(0, 0), (leg(2, 0, longs[2]), leg(0, 20, 0))), ("left",))
        self.assertEqual(turns(web, spot(3, longs[3]), spot(0, 0), (leg(3, longs[3], 0), leg(0, 20, 0))), ("right",))
        self.assertEqual(turns(web, spot(2, 0), spot(3, longs[3]), (leg(2, 0, longs[2]), leg(3, 0, longs[3]))), ("on",))

    def test_back_over_a_road_alike(self):
        web = (pts((0, 0), (10, 0)), ((0, 1, (), 2), (0, 1, (), 2), (1, 0, pts((3, 0)), 2), (1, 0, pts((20, 0)), 2)))
        self.assertEqual(turns(web, spot(0, 4), spot(1, 4), (leg(0, 4, 10), leg(1, 10, 4))), ("back",))
        self.assertEqual(turns(web, spot(0, 4), spot(2, 2), (leg(0, 4, 10), leg(2, 0, 2))), ("back",))
        self.assertEqual(turns(web, spot(0, 4), spot(2, 9), (leg(0, 4, 10), leg(2, 0, 9))), ("back",))
        self.assertEqual(turns(web, spot(0, 4), spot(3, 2), (leg(0, 4, 10), leg(3, 0, 2))), ("on",))
        self.assertEqual(turns(web, spot(0, 4), spot(3, 25), (leg(0, 4, 0), leg(3, 30, 25))), ("back",))

    def test_legs_that_begin_or_end_within_the_piece(self):
        for far in ("1/3", 3, 9):
            self.assertEqual(turns(WEB, spot(0, far), spot(1, "1/7"), (leg(0, far, 10), leg(1, 0, "1/7"))), ("left",))
            self.assertEqual(turns(WEB, spot(0, far), spot(4, 5), (leg(0, far, 10), leg(4, 0, 5))), ("on",))
            self.assertEqual(turns(WEB, spot(0, far), spot(3, 5), (leg(0, far, 0), leg(3, 10, 5))), ("right",))

    def test_each_crossing_between_two_legs(self):
        legs = (leg(0, 3, 10), leg(4, 0, 10), leg(5, 0, 20), leg(2, 0, 10), leg(3, 0, 4))
        self.assertEqual(turns(WEB, spot(0, 3), spot(3, 4), legs), ("on", "left", "on", "left"))
        legs = (leg(3, 4, 0), leg(2, 10, 0))
        self.assertEqual(turns(WEB, spot(3, 4), spot(2, 0), legs), ("right",))

    def test_one_leg_or_none(self):
        self.assertEqual(turns(WEB, spot(0, 3), spot(0, 4), (leg(0, 3, 4),)), ())
        self.assertEqual(turns(WEB, spot(5, 0), spot(5, 20), (leg(5, 0, 20),)), ())
        self.assertEqual(turns(WEB, spot(0, 3), spot(0, 3), ()), ())
        self.assertEqual(turns(WEB, spot(0, 10), spot(4, 0), ()), ())

    def test_none_of_what_is_no_route(self):
        self.assertIsNone(turns(WEB, spot(0, 3), spot(0, 4), ()))
        self.assertIsNone(turns(WEB, spot(0, 3), spot(0, 4), (leg(0, 4, 3),)))
        self.assertIsNone(turns(WEB, spot(0, 3), spot(0, 4), (leg(0, 3, 4),), closed=(0,)))
        self.assertIsNone(turns(WEB, spot(0, 3), spot(0, 4), None))

    def test_against_the_words(self):
        words = {}
        for web, start, goal, closed in questions(64, 300):
            legs = route(web, start, goal, closed=closed)
            if legs is None:
                continue
            told = turns(web, start, goal, legs, closed=closed)
            self.assertIs(type(told), tuple)
            expected = tuple(self.done(web, one, other) for one, other in zip(legs, legs[1:]))
            self.assertEqual(told, expected, (web, legs))
            for word in told:
                words[word] = words.get(word, 0) + 1
        self.assertEqual(sorted(words), ["back", "left", "on", "right"])

    def done(self, web, one, other):
        last = way_along(web, one[0]) if val(one[2]) > val(one[1]) else way_along(web, one[0])[::-1]
        after = way_along(web, other[0]) if val(other[2]) > val(other[1]) else way_along(web, other[0])[::-1]
        (ax, ay), (bx, by), (cx, cy) = last[-2], last[-1], after[1]
        self.assertEqual(after[0], (bx, by))
        cross = (bx - ax) * (cy - by) - (by - ay) * (cx - bx)
        ahead = (bx - ax) * (cx - bx) + (by - ay) * (cy - by)
        if cross:
            return "left" if cross > 0 else "right"
        return "on" if ahead > 0 else "back"


class Wrong(unittest.TestCase):
    START, GOAL = spot(0, 3), spot(2, 4)

    def asked(self, web, start, goal, closed):
        yield lambda: least(web, start, goal, closed=closed)
        yield lambda: route(web, start, goal, closed=closed)
        yield lambda: is_route(web, start, goal, (), closed=closed)
        yield lambda: turns(web, start, goal, (), closed=closed)

    def refused(self, refusal, web=WEB, start=START, goal=GOAL, closed=()):
        asked = list(self.asked(web, start, goal, closed))
        if goal == self.GOAL or refusal is not NoSpot:
            asked.append(lambda: prices(web, start, closed=closed))
        for ask in asked:
            with self.assertRaises(WhereError) as told:
                ask()
            self.assertIs(type(told.exception), refusal)

    def test_closed_that_is_none(self):
        wrong = [
            (1, 0), (3, 2), (0, 0), (1, 1), (0, 1, 1), (0, 2, 1), (6,), (0, 6), (-1,), (-1, 0), (BIG,), [], [0], [0, 1],
            (True,), (False,), (0, True), (False, 1), (None,), ("0",), ((0,),), (fr(0),), 0, None, True, "", "0", {},
            {0: 1}, {0}, range(2), (0.0,), Prickly(), (Prickly(),), (0, Prickly()),
        ]
        for closed in [*wrong, *ANYTHING, *OUTLANDISH]:
            self.refused(NoClosed, closed=closed)
        self.refused(NoClosed, web=(WEB[0], ()), closed=(0,))

    def test_closed_that_is_some(self):
        for many in range(7):
            for closed in itertools.combinations(range(6), many):
                for ask in self.asked(WEB, self.START, self.GOAL, closed):
                    ask()

    def test_first_the_web_then_closed_then_the_spots(self):
        self.refused(NoWeb, web=None, start=None, goal=None, closed=None)
        self.refused(NoWeb, web=(), closed=None)
        self.refused(NoWeb, web=list(WEB))
        self.refused(NoClosed, start=None, goal=None, closed=None)
        self.refused(NoClosed, start=spot(0, 11), closed=(1, 0))
        self.refused(NoClosed, goal=(9, fr(0)), closed=[])
        self.refused(NoSpot, start=None)
        self.refused(NoSpot, start=spot(0, 11), goal=None, closed=(1,))

    def test_spots_that_are_none(self):
        wrong = [None, (), (0,), spot(6, 0), spot(-1, 0), spot(0, -1), spot(0, 11), (True, fr(0)), [0, fr(0)], (0, 0),
                 (0, (2, 2)), Prickly(), (Prickly(), fr(0)), (0, Prickly())]
        for thing in wrong:
            self.refused(NoSpot, start=thing)
            for ask in self.asked(WEB, self.START, thing, ()):
                with self.assertRaises(NoSpot):
                    ask()
        self.refused(NoSpot, web=(WEB[0], ()))

    def test_closed_by_its_name_alone(self):
        for ask in (lambda: least(WEB, self.START, self.GOAL, ()), lambda: route(WEB, self.START, self.GOAL, ()),
                    lambda: prices(WEB, self.START, ()), lambda: is_route(WEB, self.START, self.GOAL, (), ()),
                    lambda: turns(WEB, self.START, self.GOAL, (), ())):
            with self.assertRaises(TypeError):
                ask()
