"""tiles: [40], [41] and [42]."""

import itertools
import random
import unittest
from fractions import Fraction

from onewhere.errors import NoDepth, NoPoint, NoRing, NoTile, NoTiles, NotThere
from onewhere.rings import is_ring
from onewhere.tiles import box, common, cover, merged, neighbours, tile_of, without
from tests.ground import has, held_by_the_patches, line_meets, middles, plain, sides_of, square
from tests.things import ANYTHING, BIG, OUTLANDISH, Prickly, Refusals, either_way_from_each_corner, pt, pts, val

LITTLE = Fraction(1, BIG)


def codes_of(depth):
    return ["".join(figures) for figures in itertools.product("0123", repeat=depth)]


ALL_BUT_DEEP = [code for depth in range(5) for code in codes_of(depth)]


def cells(codes, depth):
    """The codes of so many figures that lie in some of the codes, none of which has more."""
    return {code + rest for code in codes for rest in codes_of(depth - len(code))}


def fewest(chosen, depth, code=""):
    """The fewest codes of these cells, from the land downwards."""
    inside = cells([code], depth)
    if inside <= chosen:
        return (code,)
    if not inside & chosen:
        return ()
    return tuple(part for figure in "0123" for part in fewest(chosen, depth, code + figure))


def some_codes(chance, depth, code="", share=3):
    """Some codes of at most so many figures, no one the begin of another one, not merged."""
    pick = chance.randrange(share)
    if len(code) == depth or pick == 0:
        return (code,) if chance.random() < 0.6 else ()
    return tuple(part for figure in "0123" for part in some_codes(chance, depth, code + figure, share))


class Box(Refusals):
    def test_the_land(self):
        self.assertEqual(box(""), ((0, 1), (0, 1), (64, 1)))

    def test_each_fourth(self):
        self.assertEqual(box("0"), ((0, 1), (0, 1), (32, 1)))
        self.assertEqual(box("1"), ((32, 1), (0, 1), (32, 1)))
        self.assertEqual(box("2"), ((0, 1), (32, 1), (32, 1)))
        self.assertEqual(box("3"), ((32, 1), (32, 1), (32, 1)))

    def test_figures_go_inwards(self):
        self.assertEqual(box("13"), ((48, 1), (16, 1), (16, 1)))
        self.assertEqual(box("31"), ((48, 1), (32, 1), (16, 1)))
        self.assertEqual(box("000001"), ((1, 1), (0, 1), (1, 1)))

    def test_fractions_in_least_terms(self):
        self.assertEqual(box("0000000"), ((0, 1), (0, 1), (1, 2)))
        self.assertEqual(box("00000012"), ((1, 2), (1, 4), (1, 4)))
        self.assertEqual(box("000000001"), ((1, 8), (0, 1), (1, 8)))
        self.assertEqual(box("333333333"), ((511, 8), (511, 8), (1, 8)))
        self.assertEqual(box("222222221"), ((1, 8), (255, 4), (1, 8)))

    def test_against_the_words(self):
        chance = random.Random(40)
        deep = ["".join(chance.choices("0123", k=chance.randint(5, 9))) for _ in range(200)]
        for code in ALL_BUT_DEEP + deep:
            told = box(code)
            self.assertIs(type(told), tuple)
            self.assertEqual(tuple(map(val, told)), square(code), code)

    def test_codes_that_are_none(self):
        wrong = ["0" * 10, "3" * 11, "4", "0124", "01 ", " ", "0\n", "-1", "a", "01a", "0.1", "1,2", "O", "(", "9", "-"]
        wrong += [0, 1, True, None, ("0",), ["0"], ("0", "1"), b"01", [], (), {"0": 1}, "\u0661", "\u00b2"]
        for thing in [*wrong, *(thing for thing in ANYTHING if thing != ""), *OUTLANDISH]:
            self.refused(NoTile, box, thing)
            self.refused(NoTile, neighbours, thing)


class TileOf(Refusals):
    def test_the_land_at_depth_0(self):
        for point in (pt(0, 0), pt(63, 63), pt(5, "1/7"), pt(64 - LITTLE, 64 - LITTLE)):
            self.assertEqual(tile_of(point, 0), "")

    def test_ordinary_ones(self):
        self.assertEqual(tile_of(pt(1, 1), 1), "0")
        self.assertEqual(tile_of(pt(40, 1), 1), "1")
        self.assertEqual(tile_of(pt(1, 40), 1), "2")
        self.assertEqual(tile_of(pt(40, 40), 1), "3")
        self.assertEqual(tile_of(pt(50, 20), 2), "13")
        self.assertEqual(tile_of(pt("1/8", 0), 9), "000000001")
        self.assertEqual(tile_of(pt(0, "1/8"), 9), "000000002")
        self.assertEqual(tile_of(pt(64 - LITTLE, 64 - LITTLE), 9), "3" * 9)

    def test_the_left_and_the_lower_side_are_the_tiles_own_the_others_not(self):
        chance = random.Random(41)
        for depth in range(10):
            for _ in range(20):
                code = "".join(chance.choices("0123", k=depth))
                x, y, side = square(code)
                own = [(x, y), (x + side / 2, y), (x, y + side / 3), (x + side - LITTLE, y), (x, y + side - LITTLE),
                       (x + side - LITTLE, y + side - LITTLE), (x + side / 7, y + side * 6 / 7)]
                for point in own:
                    self.assertEqual(tile_of(pt(*point), depth), code)
                beside = [(x + side, y), (x, y + side), (x + side, y + side), (x - LITTLE, y), (x, y - LITTLE),
                          (x + side, y + side - LITTLE), (x + side / 2, y + side)]
                for point in beside:
                    if 0 <= min(point) and max(point) < 64:
                        self.assertNotEqual(tile_of(pt(*point), depth), code)

    def test_a_tile_has_the_point_and_is_of_the_depth(self):
        chance = random.Random(42)
        for _ in range(300):
            below = chance.choice((1, 2, 8, 7, 30, 10 ** 20))
            x, y = (Fraction(chance.randrange(64 * below), below) for _ in range(2))
            for depth in range(10):
                code = tile_of(pt(x, y), depth)
                self.assertEqual(len(code), depth)
                left, low, side = square(code)
                self.assertTrue(left <= x < left + side and low <= y < low + side)

    def test_a_tile_begins_as_the_greater_one_does(self):
        for point in (pt(7, "99/7"), pt(63, 1), pt("1/3", "190/3")):
            deepest = tile_of(point, 9)
            self.assertEqual([tile_of(point, depth) for depth in range(10)], [deepest[:many] for many in range(10)])

    def test_points_beyond_the_land(self):
        for x, y in [(-1, 5), (5, -1), (64, 5), (5, 64), (64, 64), (-LITTLE, 0), (0, -LITTLE), (BIG, 3), (3, -BIG),
                     (64 + LITTLE, 0), (0, 64 + LITTLE), ("-1/8", "-1/8"), (0, 64), (64, 0), (65, -1)]:
            for depth in (0, 1, 9):
                self.refused(NotThere, tile_of, pt(x, y), depth)
        for x, y in [(0, 0), (64 - LITTLE, 0), (0, 64 - LITTLE), (64 - LITTLE, 64 - LITTLE), (LITTLE, LITTLE)]:
            self.assertEqual(len(tile_of(pt(x, y), 9)), 9)

    def test_depths_that_are_none(self):
        for thing in [10, 11, -1, BIG, -BIG, True, False, None, "1", "", (1,), [1], (1, 1), {}, 1.0, 2.5, Prickly()]:
            self.refused(NoDepth, tile_of, pt(1, 1), thing)

    def test_first_the_point_then_that_it_is_there_then_the_depth(self):
        for depth in (3, 10, True, None):
            for thing in [None, (1, 1), [(0, 1), (0, 1)], ((-1, 1), (2, 2)), ((70, 1), 5), ((True, 1), (0, 1))]:
                self.refused(NoPoint, tile_of, thing, depth)
            self.refused(NotThere, tile_of, pt(64, 0), depth)


class Neighbours(Refusals):
    def test_the_land_has_none(self):
        self.assertEqual(neighbours(""), [])

    def test_at_the_corners_of_the_land(self):
        self.assertEqual(neighbours("00"), ["01", "02", "03"])
        self.assertEqual(neighbours("11"), ["10", "12", "13"])
        self.assertEqual(neighbours("22"), ["20", "21", "23"])
        self.assertEqual(neighbours("33"), ["30", "31", "32"])
        for code in codes_of(1):
            self.assertEqual(neighbours(code), [other for other in codes_of(1) if other != code])

    def test_at_the_sides_of_the_land(self):
        self.assertEqual(neighbours("01"), ["00", "02", "03", "10", "12"])
        self.assertEqual(neighbours("13"), ["10", "11", "12", "30", "31"])
        self.assertEqual(neighbours("02"), ["00", "01", "03", "20", "21"])
        self.assertEqual(neighbours("23"), ["20", "21", "22", "30", "32"])

    def test_within(self):
        self.assertEqual(neighbours("03"), ["00", "01", "02", "10", "12", "20", "21", "30"])
        self.assertEqual(neighbours("033"), ["030", "031", "032", "120", "122", "210", "211", "300"])

    def test_at_the_greatest_depth(self):
        self.assertEqual(neighbours("0" * 9), ["000000001", "000000002", "000000003"])
        self.assertEqual(len(neighbours("0" + "3" * 8)), 8)
        self.assertIn("3" + "0" * 8, neighbours("0" + "3" * 8))

    def test_against_the_words(self):
        for depth in range(4):
            boxes = {code: square(code) for code in codes_of(depth)}
            for code, (x, y, side) in boxes.items():
                about = [other for other, (left, low, _) in boxes.items()
                         if other != code and abs(left - x) <= side and abs(low - y) <= side]
                self.assertEqual(neighbours(code), sorted(about))

    def test_a_new_list_each_time(self):
        told = neighbours("03")
        before = list(told)
        told.append("x")
        told[0] = None
        self.assertEqual(neighbours("03"), before)
        neighbours("").append("0")
        self.assertEqual(neighbours(""), [])


class Merged(Refusals):
    def test_none_and_one(self):
        self.assertEqual(merged(()), ())
        for code in ("", "0", "3", "012301230"):
            self.assertEqual(merged((code,)), (code,))

    def test_four_are_one(self):
        self.assertEqual(merged(("0", "1", "2", "3")), ("",))
        self.assertEqual(merged(("20", "21", "22", "23")), ("2",))
        self.assertEqual(merged(("012301230", "012301231", "012301232", "012301233")), ("01230123",))

    def test_fewer_than_four_stay(self):
        for codes in (("0", "1", "2"), ("0", "1", "3"), ("00", "01", "02", "10", "11"), ("03", "10", "21", "32")):
            self.assertEqual(merged(codes), codes)

    def test_four_in_a_row_that_are_no_fourths_of_one(self):
        self.assertEqual(merged(("01", "02", "03", "10")), ("01", "02", "03", "10"))
        self.assertEqual(merged(("0", "1", "2", "30")), ("0", "1", "2", "30"))
        self.assertEqual(merged(("0", "10", "2", "3")), ("0", "10", "2", "3"))
        self.assertEqual(merged(("00", "1", "2", "3")), ("00", "1", "2", "3"))

    def test_over_several_depths(self):
        self.assertEqual(merged(("00", "01", "02", "030", "031", "032", "033", "1")), ("0", "1"))
        self.assertEqual(merged(("0", "1", "2", "30", "31", "32", "330", "331", "332", "333")), ("",))
        for depth in range(6):
            self.assertEqual(merged(tuple(codes_of(depth))), ("",))
        self.assertEqual(merged(tuple(codes_of(5)[1:])), fewest(set(codes_of(5)[1:]), 5))

    def test_against_the_words(self):
        chance = random.Random(43)
        for _ in range(150):
            codes = some_codes(chance, 4, share=chance.choice((2, 3, 9)))
            told = merged(codes)
            self.assertIs(type(told), tuple)
            self.assertEqual(told, fewest(cells(codes, 4), 4))
            self.assertEqual(merged(told), told)

    def test_codes_that_are_none(self):
        good = ("00", "1")
        wrong = [
            ("1", "0"), ("0", "0"), ("", ""), ("0", "1", "1"), ("10", "01"), ("0", "2", "1"),
            ("", "0"), ("0", "00"), ("0", "01", "1"), ("01", "0123"), ("0", "0" * 9), ("1", "13", "2"),
            ("0", "03", "1"),
            ["0", "1"], [], {"0": 1}, {}, "0", "", "01", 0, True, None, ("0", 1), (0,), (None,), (True,), (("0",),),
            (["0"],), ("0", "4"), ("0" * 10,), ("a",), (" 0",), ("0", b"1"), (b"0",), range(0), Prickly(), (Prickly(),),
            ("0", Prickly()), ({},), ([],), ((),),
        ]
        others = [thing for thing in ANYTHING + OUTLANDISH if not isinstance(thing, Prickly)]
        for thing in wrong + others:
            self.refused(NoTiles, merged, thing)
            for ask in (common, without):
                self.refused(NoTiles, ask, thing, good)
                self.refused(NoTiles, ask, good, thing)
                self.refused(NoTiles, ask, thing, thing)

    def test_at_most_1024(self):
        fine = codes_of(6)
        for many in (1023, 1024):
            self.assertEqual(merged(tuple(fine[:many])), fewest(set(fine[:many]), 6))
        self.assertEqual(common(tuple(fine[:1024]), tuple(fine[1024:2048])), ())
        self.assertEqual(without(tuple(fine[:1024]), tuple(fine[1023:2047])), fewest(set(fine[:1023]), 6))
        for many in (1025, 1026, 1500):
            self.refused(NoTiles, merged, tuple(fine[:many]))
            self.refused(NoTiles, common, tuple(fine[:many]), ())
            self.refused(NoTiles, common, (), tuple(fine[:many]))
            self.refused(NoTiles, without, tuple(fine[:many]), ())
            self.refused(NoTiles, without, (), tuple(fine[:many]))


class CommonAndWithout(unittest.TestCase):
    def test_alike(self):
        for codes in ((), ("",), ("0",), ("0", "13", "21")):
            self.assertEqual(common(codes, codes), codes)
            self.assertEqual(without(codes, codes), ())

    def test_alike_but_not_merged(self):
        self.assertEqual(common(("00", "01", "02", "03"), ("0",)), ("0",))
        self.assertEqual(common(("00", "01", "02", "03"), ("00", "01", "02", "03")), ("0",))
        self.assertEqual(without(("0",), ("00", "01", "02", "03")), ())
        self.assertEqual(without(("00", "01", "02", "03"), ("0",)), ())
        self.assertEqual(without(("0", "10", "11", "12", "13"), ("3",)), ("0", "1"))

    def test_a_part_of_the_other(self):
        self.assertEqual(common(("0",), ("03",)), ("03",))
        self.assertEqual(common(("03",), ("0",)), ("03",))
        self.assertEqual(common(("",), ("03", "2")), ("03", "2"))
        self.assertEqual(without(("0",), ("03",)), ("00", "01", "02"))
        self.assertEqual(without(("03",), ("0",)), ())
        self.assertEqual(without(("",), ("3",)), ("0", "1", "2"))
        self.assertEqual(without(("0", "1"), ("",)), ())
        self.assertEqual(without(("0",), ("0333",)),
                         ("00", "01", "02", "030", "031", "032", "0330", "0331", "0332"))

    def test_each_has_parts_of_the_other(self):
        self.assertEqual(common(("0", "12"), ("03", "1")), ("03", "12"))
        self.assertEqual(without(("0", "12"), ("03", "1")), ("00", "01", "02"))
        self.assertEqual(without(("03", "1"), ("0", "12")), ("10", "11", "13"))

    def test_nothing_in_common(self):
        self.assertEqual(common(("0", "12"), ("11", "3")), ())
        self.assertEqual(without(("0", "12"), ("11", "3")), ("0", "12"))

    def test_of_none(self):
        self.assertEqual(common((), ("0",)), ())
        self.assertEqual(common(("0",), ()), ())
        self.assertEqual(common((), ()), ())
        self.assertEqual(without((), ("0",)), ())
        self.assertEqual(without(("0",), ()), ("0",))
        self.assertEqual(without(("20", "21", "22", "23"), ()), ("2",))
        self.assertEqual(without((), ()), ())

    def test_merged_out_of_both(self):
        self.assertEqual(common(("00", "01", "1"), ("00", "01", "1", "2")), ("00", "01", "1"))
        self.assertEqual(common(("00", "01", "02", "03"), ("0", "1")), ("0",))
        self.assertEqual(common(("0", "10"), ("00", "01", "02", "03", "1")), ("0", "10"))
        self.assertEqual(common(("00", "01", "020", "021", "022", "023", "03"), ("00", "01", "02", "03")), ("0",))

    def test_at_the_greatest_depth(self):
        deepest = "012301230"
        left = without(("",), (deepest,))
        self.assertEqual(len(left), 27)
        self.assertEqual(common(left, (deepest,)), ())
        self.assertEqual(merged(tuple(sorted(left + (deepest,)))), ("",))

    def test_without_many_deep_ones(self):
        deep = tuple(code + "0000" for code in codes_of(5))
        left = without(("",), deep)
        self.assertEqual(sum(4 ** (9 - len(code)) for code in left), 4 ** 9 - 1024)
        self.assertEqual(left, tuple(sorted(left)))

    def test_against_the_words(self):
        chance = random.Random(44)
        for _ in range(150):
            one, other = (some_codes(chance, 4, share=chance.choice((2, 3, 9))) for _ in range(2))
            mine, theirs = cells(one, 4), cells(other, 4)
            self.assertEqual(common(one, other), fewest(mine & theirs, 4))
            self.assertEqual(common(other, one), fewest(mine & theirs, 4))
            self.assertEqual(without(one, other), fewest(mine - theirs, 4))
            for told in (common(one, other), without(one, other)):
                self.assertIs(type(told), tuple)


def cover_by_the_words(corners, depth):
    """[42] for a ring of Fractions."""
    within, met = [], []
    for code in codes_of(depth):
        x, y, side = square(code)
        tile = [(x, y), (x + side, y), (x + side, y + side), (x, y + side)]
        word = held_by_the_patches(tile, corners)
        if word in ("same", "in"):
            within.append(code)
        if word not in ("apart", "touch") or (word == "touch" and touches_own_sides(corners, tile)):
            met.append(code)
    return tuple(within), tuple(met)


def touches_own_sides(corners, tile):
    """Whether a ring has a point of a tile's left or lower side, without their far ends."""
    low, right, _, up = tile
    return any(has_point_ahead_of_end(corners, low, end) for end in (right, up))


def has_point_ahead_of_end(corners, begin, end):
    at = 0 if begin[1] == end[1] else 1
    found = [point[at] for a, b in sides_of(corners) for point in line_meets(a, b, begin, end)] + [begin[at], end[at]]
    found += [corner[at] for corner in corners]
    for along in found + middles(found):
        point = (along, begin[1]) if at == 0 else (begin[0], along)
        if begin[at] <= along < end[at] and has(corners, point):
            return True
    return False


class Cover(Refusals):
    def test_the_whole_land(self):
        land = pts((0, 0), (64, 0), (64, 64), (0, 64))
        for depth in range(5):
            self.assertEqual(cover(land, depth), (tuple(codes_of(depth)), tuple(codes_of(depth))))
            self.assertEqual(cover(pts((-1, -1), (99, -1), (99, 99), (-1, 99)), depth), cover(land, depth))

    def test_a_tile_meets_those_at_its_right_and_above_it_too(self):
        ring = pts((16, 16), (32, 16), (32, 32), (16, 32))
        self.assertEqual(cover(ring, 0), ((), ("",)))
        self.assertEqual(cover(ring, 1), ((), ("0", "1", "2", "3")))
        self.assertEqual(cover(ring, 2), (("03",), ("03", "12", "21", "30")))
        within, met = cover(ring, 3)
        self.assertEqual(within, ("030", "031", "032", "033"))
        self.assertEqual(met, ("030", "031", "032", "033", "120", "122", "210", "211", "300"))

    def test_what_touches_the_right_or_upper_side_alone_is_not_met(self):
        # To the right of the tile 03, and above it, with a side on its right or upper side.
        self.assertEqual(cover(pts((32, 18), (40, 20), (32, 30)), 2), ((), ("12",)))
        self.assertEqual(cover(pts((18, 32), (20, 40), (30, 32)), 2), ((), ("21",)))
        # A corner on these sides, and on the corners that are not the tile's.
        self.assertEqual(cover(pts((32, 20), (40, 19), (40, 21)), 2), ((), ("12",)))
        self.assertEqual(cover(pts((20, 32), (19, 40), (21, 40)), 2), ((), ("21",)))
        self.assertEqual(cover(pts((32, 32), (40, 33), (33, 40)), 2), ((), ("30",)))
        self.assertEqual(cover(pts((32, 16), (40, 17), (33, 18)), 2), ((), ("12",)))
        self.assertEqual(cover(pts((16, 32), (17, 40), (18, 33)), 2), ((), ("21",)))

    def test_what_touches_the_left_or_lower_side_alone_is_met(self):
        self.assertEqual(cover(pts((16, 18), (10, 20), (16, 30)), 2), ((), ("02", "03")))
        self.assertEqual(cover(pts((18, 16), (20, 10), (30, 16)), 2), ((), ("01", "03")))
        self.assertEqual(cover(pts((16, 20), (10, 19), (10, 21)), 2), ((), ("02", "03")))
        self.assertEqual(cover(pts((20, 16), (19, 10), (21, 10)), 2), ((), ("01", "03")))
        self.assertEqual(cover(pts((16, 16), (10, 15), (15, 10)), 2), ((), ("00", "03")))
        # Through the corner below and to the right: that one is the next tile's.
        self.assertEqual(cover(pts((32, 16), (31, 10), (33, 10)), 2), ((), ("01", "10", "12")))
        # A ring over a corner with no corner of its own there.
        self.assertEqual(cover(pts((10, 22), (22, 10), (10, 10)), 2), ((), ("00", "01", "02", "03")))

    def test_smaller_than_a_tile(self):
        ring = pts((33, 33), (34, 33), (33, 34))
        self.assertEqual(cover(ring, 0), ((), ("",)))
        self.assertEqual(cover(ring, 1), ((), ("3",)))
        self.assertEqual(cover(ring, 4), ((), ("3000",)))
        inner = pts(("1/3", "1/3"), (1, "1/2"), ("1/2", 1))
        self.assertEqual(cover(inner, 4), ((), ("0000",)))

    def test_over_the_lands_end_and_beyond_it(self):
        ring = pts((-10, -10), (32, -10), (32, 32), (-10, 32))
        self.assertEqual(cover(ring, 1), (("0",), ("0", "1", "2", "3")))
        self.assertEqual(cover(pts((60, 60), (90, 60), (90, 90), (60, 90)), 4), (("3333",), ("3333",)))
        far = pts((70, 0), (80, 0), (75, 9))
        for depth in range(5):
            self.assertEqual(cover(far, depth), ((), ()))
            self.assertEqual(cover(pts((64, 0), (80, 0), (64, 64)), depth), ((), ()))
            self.assertEqual(cover(pts((0, 64), (9, 64), (9, 70)), depth), ((), ()))
        self.assertEqual(cover(pts((0, 8), (-9, 8), (-9, 9)), 4), ((), ("0020",)))
        self.assertEqual(cover(pts((8, 0), (8, -9), (9, -9)), 4), ((), ("0010",)))
        self.assertEqual(cover(pts((0, 0), (-9, -8), (-8, -9)), 4), ((), ("0000",)))

    def test_a_ring_that_is_not_convex(self):
        # A cup with the tile 12 of three sides left out at its mouth.
        cup = pts((16, 0), (64, 0), (64, 32), (48, 32), (48, 16), (32, 16), (32, 32), (16, 32))
        within, met = cover(cup, 2)
        self.assertEqual(within, ("01", "03", "10", "11", "13"))
        self.assertEqual(met, ("01", "03", "10", "11", "12", "13", "21", "30", "31"))

    def test_a_needle_through_tiles(self):
        needle = pts((1, 1), (63, 62), (63, 63))
        for depth in range(5):
            within, met = cover(needle, depth)
            self.assertEqual(within, ())
            self.assertEqual(met, cover_by_the_words(plain(needle), depth)[1])
            self.assertTrue({code for code in codes_of(depth) if set(code) <= {"0", "3"}} <= set(met))

    def test_turned_about(self):
        ring = pts((3, 5), (40, 8), (30, 33), (34, 60), (8, 44))
        for depth in range(5):
            told = cover(ring, depth)
            for same, _ in either_way_from_each_corner(ring):
                self.assertEqual(cover(same, depth), told)

    def test_each_depth_against_the_words(self):
        rings = [
            pts((3, 5), (40, 8), (30, 33), (34, 60), (8, 44)),
            pts((0, 0), (32, 0), (32, 32), (48, 48), (0, 48)),
            pts((-5, 20), (40, -8), (70, 33), (34, 80)),
            pts((8, 8), (24, 8), (24, 24), (40, 24), (40, 8), (56, 8), (56, 56), (8, 56)),
        ]
        for at, ring in enumerate(rings):
            # The greatest depth takes its time, so it is asked of two of the rings alone.
            for depth in range(4 if at % 2 else 5):
                self.assertEqual(cover(ring, depth), cover_by_the_words(plain(ring), depth), (ring, depth))

    def test_by_chance_against_the_words(self):
        chance = random.Random(45)
        many = 0
        while many < 80:
            step = chance.choice((8, 16, 32))
            ring = pts(*((step * chance.randint(-1, 96 // step), step * chance.randint(-1, 96 // step))
                         for _ in range(chance.randint(3, 6))))
            if not is_ring(ring):
                continue
            many += 1
            depth = chance.choice((0, 1, 2, 2))
            self.assertEqual(cover(ring, depth), cover_by_the_words(plain(ring), depth), (ring, depth))

    def test_points_of_tiles_by_chance(self):
        chance = random.Random(46)
        ring = pts((3, 5), (40, 8), (30, 33), ("34", "121/2"), (8, 44), (20, 20))
        corners = plain(ring)
        within, met = cover(ring, 4)
        self.assertTrue(set(within) < set(met))
        for _ in range(3000):
            x, y = Fraction(chance.randrange(640), 10), Fraction(chance.randrange(640), 10)
            code = tile_of(pt(x, y), 4)
            if has(corners, (x, y)):
                self.assertIn(code, met)
            else:
                self.assertNotIn(code, within)

    def test_rising_tuples(self):
        told = cover(pts((3, 5), (40, 8), (30, 33), (34, 60), (8, 44)), 4)
        self.assertIs(type(told), tuple)
        for codes in told:
            self.assertIs(type(codes), tuple)
            self.assertEqual(list(codes), sorted(set(codes)))
            self.assertEqual({len(code) for code in codes}, {4})

    def test_numbers_of_30_figures(self):
        ring = pts((LITTLE, LITTLE), (64 - LITTLE, LITTLE), (64 - LITTLE, 64 - LITTLE), (LITTLE, 64 - LITTLE))
        within, met = cover(ring, 4)
        self.assertEqual(met, tuple(codes_of(4)))
        self.assertEqual(len(within), 14 * 14)
        self.assertEqual(cover(pts((-BIG, -BIG), (BIG, -BIG), (0, BIG)), 1), (tuple("0123"), tuple("0123")))

    def test_depths_that_are_none(self):
        ring = pts((3, 5), (40, 8), (30, 33))
        for thing in [5, 6, 9, 10, -1, BIG, True, False, None, "1", "", (1,), [1], {}, 1.0, Prickly()]:
            self.refused(NoDepth, cover, ring, thing)
        for depth in range(5):
            self.assertEqual(len(cover(ring, depth)), 2)

    def test_first_the_ring_then_the_depth(self):
        for thing in [None, (), "0", ring_that_is_none(), list(pts((0, 0), (4, 0), (0, 4))), *OUTLANDISH]:
            for depth in (1, 5, True, None):
                self.refused(NoRing, cover, thing, depth)


def ring_that_is_none():
    return pts((0, 0), (4, 4), (4, 0), (0, 4))
