"""clocks: [90] and [91]."""

import random
from fractions import Fraction

from onewhere.clocks import across, are_zones, first_instant, instants, shown
from onewhere.errors import NoInstant, NoMoves, NoPoint, NoTelling, NotThere, NoZones
from tests.days import (
    CELLS, instants_by_the_words, middle_of_cell, owner_of, shown_by_the_words, some_moves, some_zones,
)
from tests.things import ANYTHING, BIG, OUTLANDISH, Prickly, Refusals, fr, pt

DAY = 1440
HERE, THERE, FAR = pt(1, 1), pt(40, 1), pt(40, 40)
# The left lower fourth is west's, the right lower one east's; the rest is the land's.
MOVES = ((0, ("0",), "west"), (0, ("1",), "east"))
# West's clocks are put on by an hour at instant 1500, and back at 3000; east's are always two hours ahead.
ZONES = (("east", ((0, 120),)), ("west", ((0, 0), (1500, 60), (3000, 0))))
ASKS = (
    (shown, (HERE, 5)), (instants, (HERE, (0, 0, 5))), (first_instant, (HERE, (0, 0, 5))),
    (across, (HERE, THERE, (0, 0, 5))),
)


def telling(instant):
    """The telling of an instant where clocks show just it."""
    return instant // DAY, instant % DAY // 60, instant % 60


def zone(*shifts, region="west"):
    return ((region, shifts),)


class AreZones(Refusals):
    def no(self, zones):
        self.assertIs(are_zones(zones), False, zones)
        for ask, handed in ASKS:
            self.refused(NoZones, ask, MOVES, zones, *handed)

    def yes(self, zones):
        self.assertIs(are_zones(zones), True, zones)

    def test_zones(self):
        self.yes(())
        self.yes(ZONES)
        self.yes(zone((0, 0)))
        self.yes(zone((0, 0), region="land"))

    def test_at_most_eight(self):
        many = [(region, ((0, 5),)) for region in "abcdefghij"]
        for count in range(9):
            self.yes(tuple(many[:count]))
        for count in (9, 10):
            self.no(tuple(many[:count]))

    def test_rising_and_unlike(self):
        east, west = ZONES
        self.no((west, east))
        self.no((east, east))
        self.no((("east", ((0, 1),)), ("east", ((0, 2),))))
        self.no((("east", ((0, 2),)), ("east", ((0, 1),)), west))
        self.yes((("a", ((0, 9),)), ("aa", ((0, 1),)), ("b", ((0, 0),))))

    def test_regions_that_are_no_words(self):
        for region in ("", "West", "abcdefghi", "a b", "a1", 1, None, True, ("a",), ["a"], b"a", {}, Prickly()):
            self.no(((region, ((0, 0),)),))
            self.no((("a", ((0, 0),)), (region, ((0, 0),))))

    def test_one_to_twelve_shifts(self):
        shifts = [(at * 10, at) for at in range(14)]
        for many in range(1, 13):
            self.yes(zone(*shifts[:many]))
        for many in (0, 13, 14):
            self.no(zone(*shifts[:many]))

    def test_instants_rising_from_0_on(self):
        for shifts in (((1, 0),), ((5, 0), (9, 0)), ((0, 0), (0, 1)), ((0, 1), (0, 0)), ((0, 0), (9, 0), (5, 0)),
                       ((0, 0), (9, 0), (9, 0)), ((0, 0), (9, 0), (9, 1)), ((9, 0), (0, 0)), ((-1, 0), (0, 0)),
                       ((-1, 0),), ((0, 0), (-5, 0))):
            self.no(zone(*shifts))
        self.yes(zone((0, 9), (1, 0), (2, 9)))
        self.yes(zone((0, 0), (BIG, 0)))

    def test_minutes_from_less_900_to_900(self):
        for minutes in (-900, -899, -1, 0, 1, 899, 900):
            self.yes(zone((0, minutes)))
            self.yes(zone((0, 0), (7, minutes)))
        for minutes in (-901, 901, -BIG, BIG, True, False, None, "0", (0,), [0], 0.0, Prickly()):
            self.no(zone((0, minutes)))
            self.no(zone((0, 0), (7, minutes)))

    def test_instants_that_are_none(self):
        for begin in (True, False, None, "0", (0,), [0], 0.0, Prickly()):
            self.no(zone((begin, 0)))
            self.no(zone((0, 0), (begin, 0)))

    def test_other_parts(self):
        for wrong in ([0, 0], (0,), (0, 0, 0), (), 0, None, "00", {}, Prickly()):
            self.no(zone(wrong))
            self.no(zone((0, 0), wrong))
        for wrong in (["west", ((0, 0),)], ("west",), ("west", ((0, 0),), 1), ("west", [(0, 0)]), ("west", (0, 0)),
                      ("west", None), ("west", {0: 0}), ((0, 0), "west"), (), None, 0, "west", Prickly(),
                      ("west", Prickly())):
            self.no((wrong,))
            self.no((("a", ((0, 0),)), wrong))
        for wrong in ([], list(ZONES), {}, dict(ZONES), ZONES[0], "", None, 0, True, iter(ZONES), Prickly()):
            self.no(wrong)

    def test_of_anything(self):
        for thing in [*ANYTHING, *OUTLANDISH]:
            self.no(thing)

    def test_by_chance(self):
        chance = random.Random(90)
        for _ in range(50):
            self.yes(some_zones(chance))


class Shown(Refusals):
    def test_a_region_without_zones(self):
        for instant in (0, 1, 59, 60, 1439, 1440, 100000, BIG):
            self.assertEqual(shown(MOVES, ZONES, FAR, instant), telling(instant))
            self.assertEqual(shown((), (), HERE, instant), telling(instant))
            self.assertEqual(shown(MOVES, (), HERE, instant), telling(instant))

    def test_land_is_a_region_like_others(self):
        self.assertEqual(shown(MOVES, zone((0, 61), region="land"), FAR, 0), (0, 1, 1))
        self.assertEqual(shown((), zone((0, 61), region="land"), HERE, 0), (0, 1, 1))
        self.assertEqual(shown(MOVES, zone((0, 61), region="land"), HERE, 0), (0, 0, 0))

    def test_at_a_shift_and_just_ahead_of_it(self):
        self.assertEqual(shown(MOVES, ZONES, HERE, 0), (0, 0, 0))
        self.assertEqual(shown(MOVES, ZONES, HERE, 1499), (1, 0, 59))
        self.assertEqual(shown(MOVES, ZONES, HERE, 1500), (1, 2, 0))
        self.assertEqual(shown(MOVES, ZONES, HERE, 2999), telling(3059))
        self.assertEqual(shown(MOVES, ZONES, HERE, 3000), telling(3000))
        self.assertEqual(shown(MOVES, ZONES, HERE, BIG), telling(BIG))

    def test_each_region_has_its_own(self):
        self.assertEqual(shown(MOVES, ZONES, THERE, 5), (0, 2, 5))
        self.assertEqual(shown(MOVES, ZONES, HERE, 5), (0, 0, 5))
        self.assertEqual(shown(MOVES, ZONES, pt(32 - Fraction(1, BIG), 0), 5), (0, 0, 5))
        self.assertEqual(shown(MOVES, ZONES, pt(32, 0), 5), (0, 2, 5))

    def test_midnight(self):
        self.assertEqual(shown(MOVES, ZONES, THERE, 1319), (0, 23, 59))
        self.assertEqual(shown(MOVES, ZONES, THERE, 1320), (1, 0, 0))
        self.assertEqual(shown(MOVES, zone((0, -1)), HERE, 1440), (0, 23, 59))
        self.assertEqual(shown(MOVES, zone((0, -1)), HERE, 1441), (1, 0, 0))

    def test_days_below_0(self):
        self.assertEqual(shown(MOVES, zone((0, -1)), HERE, 0), (-1, 23, 59))
        self.assertEqual(shown(MOVES, zone((0, -900)), HERE, 0), (-1, 9, 0))
        self.assertEqual(shown(MOVES, zone((0, -900)), HERE, 899), (-1, 23, 59))
        self.assertEqual(shown(MOVES, zone((0, -900)), HERE, 900), (0, 0, 0))

    def test_the_region_changes_by_a_move_of_that_day(self):
        moves = MOVES + ((2, ("0",), "east"),)
        self.assertEqual(shown(moves, ZONES, HERE, 2879), telling(2879 + 60))
        self.assertEqual(shown(moves, ZONES, HERE, 2880), telling(2880 + 120))
        # The region is that of the instant's day, not of the day that clocks show.
        self.assertEqual(shown(MOVES + ((1, ("1",), "land"),), ZONES, THERE, 1439), (1, 1, 59))
        self.assertEqual(shown(MOVES + ((1, ("1",), "land"),), ZONES, THERE, 1440), (1, 0, 0))

    def test_instants_that_are_none(self):
        for thing in (-1, -BIG, True, False, None, "5", (5,), [5], 5.0, (0, 0, 5), {}, Prickly()):
            self.refused(NoInstant, shown, MOVES, ZONES, HERE, thing)
            self.refused(NoInstant, shown, (), (), HERE, thing)

    def test_by_chance(self):
        chance = random.Random(91)
        for _ in range(60):
            moves, zones = some_moves(chance), some_zones(chance)
            for cell in chance.sample(CELLS, 5):
                point = pt(*middle_of_cell(cell))
                for _ in range(10):
                    instant = chance.randrange(10 * DAY)
                    told = shown(moves, zones, point, instant)
                    self.assertEqual(told, shown_by_the_words(moves, zones, cell, instant))
                    self.assertIs(type(told), tuple)


class Instants(Refusals):
    def told(self, told, zones=ZONES, moves=MOVES, point=HERE):
        found = instants(moves, zones, point, told)
        self.assertIs(type(found), list)
        self.assertEqual(first_instant(moves, zones, point, told), found[0] if found else None)
        return found

    def test_one(self):
        for instant in (0, 5, 1439, 1440, 1499, 100000, BIG):
            self.assertEqual(self.told(telling(instant)), [instant])
            self.assertEqual(self.told(telling(instant), point=FAR), [instant])
            self.assertEqual(self.told(telling(instant + 120), point=THERE), [instant])

    def test_none_where_clocks_are_put_on(self):
        for whole in (1500, 1530, 1559):
            self.assertEqual(self.told(telling(whole)), [])
        self.assertEqual(self.told(telling(1560)), [1500])

    def test_two_where_they_are_put_back(self):
        self.assertEqual(self.told(telling(2999)), [2939])
        for whole in (3000, 3001, 3059):
            self.assertEqual(self.told(telling(whole)), [whole - 60, whole])
        self.assertEqual(self.told(telling(3060)), [3060])

    def test_more_by_several(self):
        zones = zone((0, 0), (100, -30), (130, -60), (160, -90))
        self.assertEqual(self.told(telling(99), zones), [99, 129, 159, 189])
        self.assertEqual(self.told(telling(70), zones), [70, 100, 130, 160])
        self.assertEqual(self.told(telling(69), zones), [69])
        self.assertEqual(self.told(telling(100), zones), [190])

    def test_the_same_minutes_again(self):
        zones = zone((0, 60), (100, 0), (200, 60), (300, 0), (400, 60))
        self.assertEqual(self.told(telling(150), zones), [90, 150])
        self.assertEqual(self.told(telling(350), zones), [290, 350])
        self.assertEqual(self.told(telling(230), zones), [])

    def test_the_begin_of_time(self):
        self.assertEqual(self.told((0, 0, 0), point=THERE), [])
        self.assertEqual(self.told((0, 1, 59), point=THERE), [])
        self.assertEqual(self.told((0, 2, 0), point=THERE), [0])
        self.assertEqual(self.told((-1, 23, 59)), [])
        self.assertEqual(self.told((-1, 23, 59), zone((0, -1))), [0])
        self.assertEqual(self.told((-1, 9, 0), zone((0, -900))), [0])
        self.assertEqual(self.told((-1, 8, 59), zone((0, -900))), [])
        self.assertEqual(self.told((-BIG, 0, 0), zone((0, -900))), [])

    def test_the_region_changes(self):
        # East's clocks are ahead, so the hour behind midnight is left out, and comes twice on the way back.
        on = ((0, ("0",), "west"), (2, ("0",), "east"))
        zones = (("east", ((0, 60),)),)
        self.assertEqual(self.told((2, 0, 30), zones, on), [])
        self.assertEqual(self.told((1, 23, 59), zones, on), [2879])
        self.assertEqual(self.told((2, 1, 0), zones, on), [2880])
        back = ((0, ("0",), "east"), (2, ("0",), "west"))
        self.assertEqual(self.told((2, 0, 30), zones, back), [2850, 2910])
        self.assertEqual(self.told((2, 1, 0), zones, back), [2940])

    def test_by_several_regions_more_than_two(self):
        moves = ((0, ("",), "a"), (1, ("",), "b"))
        zones = (("a", ((0, 0), (1400, -30))), ("b", ((0, -60), (1450, -600))))
        found = self.told((0, 23, 0), zones, moves, FAR)
        self.assertEqual(found, [1380, 1410, 1440, 1980])

    def test_of_another_regions_minutes_there_is_none(self):
        self.assertEqual(self.told(telling(5), point=FAR), [5])
        self.assertEqual(self.told(telling(125), point=FAR), [125])

    def test_tellings_that_are_none(self):
        wrong = [
            (0, 24, 0), (0, 0, 60), (0, -1, 0), (0, 0, -1), (0, 25, 61), (0, BIG, 0), (True, 0, 0), (0, True, 0),
            (0, 0, True), (False, 0, 0), (0, False, 0), (0, 0, False), [0, 0, 0], (0, 0), (0, 0, 0, 0), (None, 0, 0),
            (0, None, 0), (0, 0, None), ("0", 0, 0), (0.0, 0, 0), (0, 0.0, 0), (0, 0, 0.0), ((0,), 0, 0), (),
            (Prickly(), 0, 0), (0, Prickly(), 0), (0, 0, Prickly()),
        ]
        for thing in [*wrong, *ANYTHING, *OUTLANDISH]:
            for ask in (instants, first_instant):
                self.refused(NoTelling, ask, MOVES, ZONES, HERE, thing)
            self.refused(NoTelling, across, MOVES, ZONES, HERE, THERE, thing)
        for day in (0, -1, BIG, -BIG):
            for hour, minute in ((0, 0), (23, 59)):
                self.assertEqual(len(self.told((day, hour, minute), ())), int(day >= 0))

    def test_a_new_list_each_time(self):
        instants(MOVES, ZONES, HERE, telling(3001)).clear()
        self.assertEqual(instants(MOVES, ZONES, HERE, telling(3001)), [2941, 3001])
        instants(MOVES, ZONES, HERE, telling(1500)).append(0)
        self.assertEqual(instants(MOVES, ZONES, HERE, telling(1500)), [])

    def test_by_chance(self):
        chance = random.Random(92)
        many = set()
        for _ in range(60):
            moves, zones = some_moves(chance, most=8), some_zones(chance)
            cell = chance.choice(CELLS)
            point = pt(*middle_of_cell(cell))
            for begin, _ in [shift for _, shifts in zones for shift in shifts][:6] + [(DAY * 3, 0)]:
                told = shown_by_the_words(moves, zones, cell, max(0, begin + chance.randint(-90, 90)))
                expected = instants_by_the_words(moves, zones, cell, told)
                self.assertEqual(self.told(told, zones, moves, point), expected)
                many.add(len(expected))
        self.assertTrue({1, 2, 3} <= many)


class Across(Refusals):
    def test_two_points_of_one_region(self):
        for point, other in ((HERE, pt(20, 30)), (THERE, pt(63, 0)), (FAR, pt(1, 63)), (HERE, HERE)):
            for whole in (125, 1499, 3060, 100000):
                self.assertEqual(across(MOVES, ZONES, point, other, telling(whole)), [telling(whole)])

    def test_two_points_of_two_regions(self):
        self.assertEqual(across(MOVES, ZONES, HERE, THERE, (0, 0, 5)), [(0, 2, 5)])
        self.assertEqual(across(MOVES, ZONES, THERE, HERE, (0, 2, 5)), [(0, 0, 5)])
        self.assertEqual(across(MOVES, ZONES, THERE, FAR, (1, 1, 0)), [(0, 23, 0)])

    def test_never_shown_at_the_first_one(self):
        self.assertEqual(across(MOVES, ZONES, HERE, THERE, telling(1530)), [])
        self.assertEqual(across(MOVES, ZONES, THERE, HERE, (0, 0, 0)), [])
        self.assertEqual(across(MOVES, ZONES, HERE, HERE, telling(1530)), [])

    def test_shown_twice_at_the_first_one(self):
        self.assertEqual(across(MOVES, ZONES, HERE, THERE, telling(3001)), [telling(3061), telling(3121)])
        self.assertEqual(across(MOVES, ZONES, HERE, FAR, telling(3001)), [telling(2941), telling(3001)])

    def test_each_telling_once(self):
        self.assertEqual(across(MOVES, ZONES, HERE, HERE, telling(3001)), [telling(3001)])
        self.assertEqual(across(MOVES, ZONES, HERE, pt(5, 5), telling(3001)), [telling(3001)])

    def test_rising_where_the_second_ones_clocks_go_back_further(self):
        zones = (("east", ((0, 0), (2970, -300))), ("west", ZONES[1][1]))
        self.assertEqual(instants(MOVES, zones, HERE, telling(3001)), [2941, 3001])
        self.assertEqual(across(MOVES, zones, HERE, THERE, telling(3001)), [telling(2701), telling(2941)])

    def test_points_that_are_none(self):
        for thing in [(), (1, 1), [fr(1), fr(1)], ((2, 2), fr(1)), ((True, 1), fr(1)), *ANYTHING, *OUTLANDISH]:
            self.refused(NoPoint, across, MOVES, ZONES, thing, thing, thing)
            self.refused(NoPoint, across, MOVES, ZONES, HERE, thing, thing)
            self.refused(NoPoint, shown, MOVES, ZONES, thing, thing)
            self.refused(NoPoint, instants, MOVES, ZONES, thing, thing)
            self.refused(NoPoint, first_instant, MOVES, ZONES, thing, thing)

    def test_points_beyond_the_land(self):
        for x, y in ((64, 0), (0, 64), (-1, 5), (5, -Fraction(1, BIG)), (BIG, BIG)):
            for thing in (None, (0, 24, 0), -1):
                self.refused(NotThere, across, MOVES, ZONES, pt(x, y), None, thing)
                self.refused(NotThere, across, MOVES, ZONES, HERE, pt(x, y), thing)
                self.refused(NotThere, shown, MOVES, ZONES, pt(x, y), thing)
                self.refused(NotThere, instants, MOVES, ZONES, pt(x, y), thing)
                self.refused(NotThere, first_instant, MOVES, ZONES, pt(x, y), thing)

    def test_first_the_moves_then_the_zones(self):
        for thing in [*ANYTHING, *OUTLANDISH, [], list(MOVES)]:
            for ask, handed in ASKS:
                self.refused(NoMoves, ask, thing, thing, *handed)
                self.refused(NoMoves, ask, thing, ZONES, *[thing] * len(handed))
                self.refused(NoZones, ask, MOVES, thing, *[thing] * len(handed))

    def test_a_new_list_each_time(self):
        across(MOVES, ZONES, HERE, FAR, telling(3001)).clear()
        self.assertEqual(across(MOVES, ZONES, HERE, FAR, telling(3001)), [telling(2941), telling(3001)])

    def test_by_chance(self):
        chance = random.Random(93)
        for _ in range(60):
            moves, zones = some_moves(chance, most=8), some_zones(chance)
            one, other = chance.sample(CELLS, 2)
            instant = chance.randrange(10 * DAY)
            told = shown_by_the_words(moves, zones, one, instant)
            expected = {shown_by_the_words(moves, zones, other, at)
                        for at in instants_by_the_words(moves, zones, one, told)}
            points = (pt(*middle_of_cell(cell)) for cell in (one, other))
            self.assertEqual(across(moves, zones, *points, told), sorted(expected))
            self.assertIn(owner_of(moves, one, 5), ("east", "land", "north", "west"))
