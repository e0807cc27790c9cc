"""regions: [80] and [81]."""

import random
from fractions import Fraction

from onewhere.errors import NoDay, NoMoves, NoPoint, NoRegion, NotThere
from onewhere.regions import are_moves, changed, great, ground, region_at, regions, rim
from tests.days import (
    CELLS, REGIONS, cells_of, fewest_codes, map_of, middle_of_cell, owner_of, rim_by_the_words, some_moves,
)
from tests.things import ANYTHING, BIG, OUTLANDISH, Prickly, Refusals, fr, pt

LITTLE = Fraction(1, BIG)
# On day 3 north gets the upper half; on day 5 west gets a fourth of it and, of the same day, gives a part of that
# to the land; on day 9 all is north's but one small tile.
MOVES = (
    (3, ("2", "3"), "north"),
    (5, ("03", "2"), "west"),
    (5, ("23",), "land"),
    (9, ("",), "north"),
    (9, ("1111",), "east"),
)
ASKS = (
    (region_at, (pt(1, 1), 3)), (ground, ("north", 3)), (great, ("north", 3)), (regions, (3,)), (changed, (3, 5)),
    (rim, ("north", 3)),
)


class AreMoves(Refusals):
    def no(self, *moves):
        self.assertIs(are_moves(moves), False, moves)
        for ask, handed in ASKS:
            self.refused(NoMoves, ask, moves, *handed)

    def yes(self, *moves):
        self.assertIs(are_moves(moves), True, moves)

    def test_moves(self):
        self.yes()
        self.yes(*MOVES)
        self.yes((0, ("",), "land"))
        self.yes((BIG, ("0000", "3333"), "abcdefgh"))

    def test_at_most_twenty_four(self):
        for many in range(25):
            self.yes(*[(1, ("0",), "a")] * many)
        for many in (25, 26, 100):
            self.no(*[(1, ("0",), "a")] * many)

    def test_days_do_not_fall(self):
        self.yes((1, ("0",), "b"), (1, ("0",), "a"), (2, ("0",), "a"))
        self.no((2, ("0",), "a"), (1, ("0",), "a"))
        self.no((1, ("0",), "a"), (3, ("0",), "a"), (2, ("0",), "a"), (4, ("0",), "a"))
        # Only the days have an order.
        self.yes((1, ("3",), "z"), (1, ("0",), "a"))

    def test_days_that_are_none(self):
        for day in (-1, -BIG, True, False, None, "1", "", (1,), [1], 1.0, Prickly()):
            self.no((day, ("0",), "a"))
            self.no((0, ("0",), "a"), (day, ("0",), "a"))

    def test_codes_that_are_none(self):
        for codes in ((), ["0"], [], "0", "", None, 0, {"0": 1}, {}, ("4",), ("1", "0"), ("0", "0"), ("", "0"),
                      ("0", "01"), ("01", "02", "02"), (0,), (None,), (True,), (("0",),), ("0", 1), ("a",), (" ",),
                      ("0" * 10,), Prickly(), (Prickly(),)):
            self.no((1, codes, "a"))
            self.no((1, ("0",), "a"), (1, codes, "a"))

    def test_at_most_four_figures(self):
        for depth in range(5):
            self.yes((1, ("0" * depth,), "a"))
        for depth in range(5, 10):
            self.no((1, ("0" * depth,), "a"))
        self.no((1, ("0000", "00010"), "a"))
        self.no((1, ("00000", "1"), "a"))
        self.yes((1, tuple(sorted("".join(figures) for figures in SMALL)), "a"))

    def test_regions_that_are_no_words(self):
        for region in ("", "A", "abcdefghi", "a b", "a1", "-", 1, None, True, ("a",), ["a"], b"a", {}, Prickly()):
            self.no((1, ("0",), region))
            self.no((1, ("0",), "a"), (1, ("0",), region))

    def test_other_parts(self):
        whole = (1, ("0",), "a")
        for wrong in (list(whole), whole[:2], whole + (1,), (), None, 0, "a", {}, (whole,), whole[::-1], Prickly()):
            self.no(wrong)
            self.no(whole, wrong)
            self.no(wrong, whole)

    def test_no_tuples(self):
        for thing in ([], list(MOVES), {}, {0: MOVES[0]}, MOVES[0], "", None, 0, True, iter(MOVES), Prickly()):
            self.assertIs(are_moves(thing), False)
            for ask, handed in ASKS:
                self.refused(NoMoves, ask, thing, *handed)

    def test_of_anything(self):
        for thing in [*ANYTHING, *OUTLANDISH]:
            self.assertIs(are_moves(thing), False)

    def test_by_chance(self):
        chance = random.Random(80)
        for _ in range(50):
            self.yes(*some_moves(chance))


SMALL = [(a, b, c, d) for a in "0123" for b in "0123" for c in "0123" for d in "0123"]


class RegionAt(Refusals):
    def test_land_without_moves(self):
        for point in (pt(0, 0), pt(5, "7/3"), pt(64 - LITTLE, 64 - LITTLE)):
            self.assertEqual(region_at((), point, 0), "land")
            self.assertEqual(region_at((), point, BIG), "land")

    def test_days_ahead_of_at_and_behind_a_move(self):
        self.assertEqual([region_at(MOVES, pt(40, 40), day) for day in (0, 2, 3, 4, 5, 8, 9, BIG)],
                         ["land", "land"] + ["north"] * 6)
        self.assertEqual([region_at(MOVES, pt(1, 40), day) for day in (2, 3, 4, 5, 8, 9)],
                         ["land", "north", "north", "west", "west", "north"])

    def test_moves_of_one_day_go_over_those_ahead(self):
        self.assertEqual(region_at(MOVES, pt(20, 50), 4), "north")
        self.assertEqual(region_at(MOVES, pt(20, 50), 5), "land")
        self.assertEqual(region_at(MOVES, pt(10, 50), 5), "west")
        twice = ((1, ("0",), "a"), (1, ("0",), "b"), (1, ("0",), "a"), (1, ("00",), "c"), (1, ("0",), "b"))
        for many, region in ((1, "a"), (2, "b"), (3, "a"), (4, "c"), (5, "b")):
            self.assertEqual(region_at(twice[:many], pt(1, 1), 1), region)

    def test_given_back_to_the_land(self):
        moves = ((1, ("0",), "a"), (4, ("0",), "land"))
        self.assertEqual([region_at(moves, pt(1, 1), day) for day in range(6)],
                         ["land", "a", "a", "a", "land", "land"])

    def test_a_move_of_the_whole_land(self):
        for point in (pt(0, 0), pt(63, 1), pt(64 - LITTLE, 64 - LITTLE), pt(1, 63)):
            self.assertEqual(region_at(((2, ("",), "all"),), point, 2), "all")
            self.assertEqual(region_at(((2, ("",), "all"),), point, 1), "land")

    def test_a_tile_has_its_left_and_lower_side(self):
        moves = ((0, ("0003",), "a"),)
        for x, y in ((4, 4), (4, 6), (6, 4), (8 - LITTLE, 4), (4, 8 - LITTLE), (8 - LITTLE, 8 - LITTLE), (5, "13/2")):
            self.assertEqual(region_at(moves, pt(x, y), 0), "a", (x, y))
        for x, y in ((8, 4), (4, 8), (8, 8), (4 - LITTLE, 4), (4, 4 - LITTLE), (8, 6), (6, 8), (0, 0)):
            self.assertEqual(region_at(moves, pt(x, y), 0), "land", (x, y))

    def test_the_lands_ends(self):
        moves = ((0, ("0000",), "a"), (0, ("1111",), "b"), (0, ("2222",), "c"), (0, ("3333",), "d"))
        end = 64 - LITTLE
        for region, x, y in (("a", 0, 0), ("b", end, 0), ("c", 0, end), ("d", end, end)):
            self.assertEqual(region_at(moves, pt(x, y), 0), region)

    def test_beyond_the_land(self):
        for x, y in ((64, 0), (0, 64), (-1, 5), (5, -LITTLE), (BIG, BIG), (64, 64)):
            for day in (0, None, -1):
                self.refused(NotThere, region_at, MOVES, pt(x, y), day)

    def test_no_points(self):
        for thing in [(), (1, 1), [fr(1), fr(1)], ((2, 2), fr(1)), ((True, 1), fr(1)), *ANYTHING, *OUTLANDISH]:
            for day in (0, None):
                self.refused(NoPoint, region_at, MOVES, thing, day)

    def test_by_chance(self):
        chance = random.Random(81)
        for _ in range(60):
            moves = some_moves(chance)
            for cell in chance.sample(CELLS, 12):
                for day in range(0, 11, 2):
                    x, y = middle_of_cell(cell)
                    expected = owner_of(moves, cell, day)
                    self.assertEqual(region_at(moves, pt(x, y), day), expected)
                    self.assertEqual(region_at(moves, pt(x - 2, y + 2 - LITTLE), day), expected)


class Ground(Refusals):
    def test_of_the_land_without_moves(self):
        self.assertEqual(ground((), "land", 0), ("",))
        self.assertEqual(ground(MOVES, "land", 2), ("",))
        self.assertEqual(great((), "land", 0), (4096, 1))

    def test_of_a_region_without_ground(self):
        for region, day in (("north", 2), ("nowhere", 5), ("west", 9), ("land", 9)):
            self.assertEqual(ground(MOVES, region, day), ())
            self.assertEqual(great(MOVES, region, day), (0, 1))

    def test_merged(self):
        self.assertEqual(ground(MOVES, "north", 3), ("2", "3"))
        self.assertEqual(ground(MOVES, "land", 3), ("0", "1"))
        self.assertEqual(ground(MOVES, "north", 5), ("3",))
        self.assertEqual(ground(MOVES, "west", 5), ("03", "20", "21", "22"))
        self.assertEqual(ground(MOVES, "land", 5), ("00", "01", "02", "1", "23"))
        self.assertEqual(ground(MOVES, "east", 9), ("1111",))
        self.assertEqual(ground(MOVES, "north", 9),
                         ("0", "10", "110", "1110", "1112", "1113", "112", "113", "12", "13", "2", "3"))
        parts = ((1, ("00", "01", "02"), "a"), (2, ("030", "031", "032"), "a"), (3, ("033",), "a"))
        self.assertEqual(ground(parts, "a", 2), ("00", "01", "02", "030", "031", "032"))
        self.assertEqual(ground(parts, "a", 3), ("0",))

    def test_areas(self):
        self.assertEqual(great(MOVES, "north", 3), (2048, 1))
        self.assertEqual(great(MOVES, "west", 5), (1024, 1))
        self.assertEqual(great(MOVES, "east", 9), (16, 1))
        self.assertEqual(great(MOVES, "north", 9), (4080, 1))

    def test_regions_that_are_none(self):
        for thing in ("", "North", "abcdefghi", "a b", 1, None, True, ("north",), ["north"], b"a", {}, Prickly()):
            for day in (3, None, -1):
                for ask in (ground, great, rim):
                    self.refused(NoRegion, ask, MOVES, thing, day)
                    self.refused(NoRegion, ask, (), thing, day)

    def test_by_chance(self):
        chance = random.Random(82)
        for _ in range(40):
            moves = some_moves(chance)
            day = chance.randrange(11)
            told = map_of(moves, day)
            for region in REGIONS:
                cells = {cell for cell in CELLS if told[cell] == region}
                self.assertEqual(ground(moves, region, day), fewest_codes(cells))
                self.assertEqual(great(moves, region, day), (16 * len(cells), 1))


class Regions(Refusals):
    def test_those_that_have_ground_rising(self):
        self.assertEqual(regions((), 0), ["land"])
        self.assertEqual([regions(MOVES, day) for day in (0, 3, 5, 8, 9)],
                         [["land"], ["land", "north"], ["land", "north", "west"], ["land", "north", "west"],
                          ["east", "north"]])
        self.assertEqual(regions(((1, ("3",), "z"), (1, ("0",), "a")), 1), ["a", "land", "z"])

    def test_one_that_lost_all(self):
        moves = ((1, ("0",), "a"), (1, ("00", "01", "02"), "b"), (2, ("03",), "b"))
        self.assertEqual(regions(moves, 1), ["a", "b", "land"])
        self.assertEqual(regions(moves, 2), ["b", "land"])

    def test_a_new_list_each_time(self):
        regions(MOVES, 5).clear()
        self.assertEqual(regions(MOVES, 5), ["land", "north", "west"])

    def test_by_chance(self):
        chance = random.Random(83)
        for _ in range(40):
            moves = some_moves(chance)
            for day in range(0, 11, 3):
                self.assertEqual(regions(moves, day), sorted(set(map_of(moves, day).values())))


class Changed(Refusals):
    def test_what_changed_hands(self):
        self.assertEqual(changed(MOVES, 0, 3), [("2", "land", "north"), ("3", "land", "north")])
        self.assertEqual(changed(MOVES, 3, 5),
                         [("03", "land", "west"), ("20", "north", "west"), ("21", "north", "west"),
                          ("22", "north", "west"), ("23", "north", "land")])
        self.assertEqual(changed(MOVES, 5, 9)[-4:],
                         [("20", "west", "north"), ("21", "west", "north"), ("22", "west", "north"),
                          ("23", "land", "north")])

    def test_either_way_about(self):
        self.assertEqual(changed(MOVES, 3, 0), [("2", "north", "land"), ("3", "north", "land")])
        self.assertEqual(changed(MOVES, 5, 3),
                         [("03", "west", "land"), ("20", "west", "north"), ("21", "west", "north"),
                          ("22", "west", "north"), ("23", "land", "north")])

    def test_nothing(self):
        for day, other in ((3, 3), (0, 2), (3, 4), (9, BIG), (BIG, 9), (5, 5)):
            self.assertEqual(changed(MOVES, day, other), [])
        self.assertEqual(changed((), 0, BIG), [])
        # There and back again, and to the one that has it.
        back = ((1, ("0",), "a"), (2, ("0",), "land"), (3, ("0",), "land"))
        self.assertEqual(changed(back, 0, 2), [])
        self.assertEqual(changed(back, 2, 3), [])

    def test_as_few_codes_as_may_be_for_each_two_regions(self):
        moves = ((1, ("00", "01"), "a"), (2, ("02",), "a"), (3, ("03",), "a"), (4, ("0",), "b"), (4, ("1",), "b"))
        self.assertEqual(changed(moves, 0, 3), [("0", "land", "a")])
        self.assertEqual(changed(moves, 2, 4), [("00", "a", "b"), ("01", "a", "b"), ("02", "a", "b"),
                                                ("03", "land", "b"), ("1", "land", "b")])
        self.assertEqual(changed(((1, ("0", "1", "2", "3"), "a"),), 0, 1), [("", "land", "a")])
        # Two regions that change places: codes for each way.
        swap = ((1, ("00", "02"), "a"), (1, ("01", "03"), "b"), (2, ("00", "02"), "b"), (2, ("01", "03"), "a"))
        self.assertEqual(changed(swap, 1, 2), [("00", "a", "b"), ("01", "b", "a"), ("02", "a", "b"), ("03", "b", "a")])

    def test_a_new_list_each_time(self):
        changed(MOVES, 0, 3).pop()
        self.assertEqual(changed(MOVES, 0, 3), [("2", "land", "north"), ("3", "land", "north")])
        changed(MOVES, 0, 0).append(1)
        self.assertEqual(changed(MOVES, 0, 0), [])

    def test_by_chance(self):
        chance = random.Random(84)
        for _ in range(40):
            moves = some_moves(chance)
            day, other = chance.randrange(11), chance.randrange(11)
            here, there = map_of(moves, day), map_of(moves, other)
            expected = []
            for begin in REGIONS:
                for end in REGIONS:
                    cells = {cell for cell in CELLS if (here[cell], there[cell]) == (begin, end)}
                    if begin != end:
                        expected += [(code, begin, end) for code in fewest_codes(cells)]
            self.assertEqual(changed(moves, day, other), sorted(expected))


def about(x, y, side):
    """The sides of small tiles about a square."""
    steps = range(0, side, 4)
    flat = [((x + at, high), (x + at + 4, high)) for at in steps for high in (y, y + side)]
    return sorted(flat + [((left, y + at), (left, y + at + 4)) for at in steps for left in (x, x + side)])


class Rim(Refusals):
    def test_one_small_tile(self):
        moves = ((0, ("0003",), "a"),)
        self.assertEqual(rim(moves, "a", 0),
                         [((4, 4), (4, 8)), ((4, 4), (8, 4)), ((4, 8), (8, 8)), ((8, 4), (8, 8))])

    def test_a_greater_tile(self):
        self.assertEqual(rim(((0, ("033",), "a"),), "a", 0), about(24, 24, 8))
        self.assertEqual(rim(((0, ("03",), "a"),), "a", 0), about(16, 16, 16))

    def test_two_that_touch_at_a_side(self):
        moves = ((0, ("0000", "0001"), "a"),)
        self.assertEqual(rim(moves, "a", 0),
                         [((0, 0), (0, 4)), ((0, 0), (4, 0)), ((0, 4), (4, 4)), ((4, 0), (8, 0)), ((4, 4), (8, 4)),
                          ((8, 0), (8, 4))])

    def test_two_that_touch_at_a_corner(self):
        moves = ((0, ("0000", "0003"), "a"),)
        self.assertEqual(rim(moves, "a", 0), sorted(about(0, 0, 4) + about(4, 4, 4)))

    def test_two_that_are_apart(self):
        moves = ((0, ("0000", "3333"), "a"),)
        self.assertEqual(rim(moves, "a", 0), sorted(about(0, 0, 4) + about(60, 60, 4)))

    def test_a_hole(self):
        moves = ((0, ("0",), "a"), (0, ("0033",), "b"))
        self.assertEqual(rim(moves, "a", 0), sorted(about(0, 0, 32) + about(12, 12, 4)))
        self.assertEqual(rim(moves, "b", 0), about(12, 12, 4))

    def test_of_the_land(self):
        self.assertEqual(rim((), "land", 0), about(0, 0, 64))
        self.assertEqual(rim(((0, ("3",), "a"),), "land", 0), sorted(
            set(about(0, 0, 64)) - {side for side in about(32, 32, 32) if 64 in (side[0][0], side[0][1])}
            | {side for side in about(32, 32, 32) if 64 not in (side[0][0], side[0][1])}))

    def test_at_the_lands_end(self):
        self.assertEqual(rim(((0, ("3333",), "a"),), "a", 0), about(60, 60, 4))
        self.assertEqual(rim(((0, ("",), "a"),), "a", 0), about(0, 0, 64))

    def test_between_two_other_regions_there_is_none(self):
        moves = ((0, ("00",), "a"), (0, ("01",), "b"), (0, ("3",), "c"))
        self.assertEqual(rim(moves, "c", 0), about(32, 32, 32))

    def test_without_ground(self):
        self.assertEqual(rim(MOVES, "nowhere", 5), [])
        self.assertEqual(rim(MOVES, "north", 2), [])
        rim(MOVES, "north", 2).append(1)
        self.assertEqual(rim(MOVES, "north", 2), [])

    def test_on_a_day(self):
        self.assertEqual(rim(MOVES, "north", 5), about(32, 32, 32))
        self.assertEqual(rim(MOVES, "north", 2), [])

    def test_whole_numbers_the_lesser_corner_first_no_side_twice(self):
        chance = random.Random(85)
        for _ in range(30):
            moves = some_moves(chance)
            day = chance.randrange(11)
            for region in REGIONS:
                told = rim(moves, region, day)
                self.assertEqual(told, rim_by_the_words(moves, region, day))
                self.assertEqual(told, sorted(set(told)))
                for one, other in told:
                    self.assertLess(one, other)
                    self.assertEqual({type(part) for part in (*one, *other)}, {int})

    def test_the_tests_own_cells(self):
        self.assertEqual(len(CELLS), 256)
        self.assertEqual(cells_of("0003"), {(1, 1)})


class Days(Refusals):
    def test_days_that_are_none(self):
        for thing in (-1, -BIG, True, False, None, "5", (5,), [5], 5.0, {}, Prickly()):
            for moves in (MOVES, ()):
                self.refused(NoDay, region_at, moves, pt(1, 1), thing)
                for ask in (ground, great, rim):
                    self.refused(NoDay, ask, moves, "north", thing)
                self.refused(NoDay, regions, moves, thing)
                self.refused(NoDay, changed, moves, thing, 3)
                self.refused(NoDay, changed, moves, 3, thing)

    def test_first_the_moves(self):
        for thing in [*ANYTHING, *OUTLANDISH]:
            for ask, handed in ASKS:
                self.refused(NoMoves, ask, thing, *handed)
                self.refused(NoMoves, ask, thing, *[thing] * len(handed))
