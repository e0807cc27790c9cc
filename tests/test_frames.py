"""frames: [20] and [21]."""

import itertools
import random
import unittest
from fractions import Fraction

from onewhere.errors import NoFrame, NoFrames, NoMap
from onewhere.frames import are_frames, back, between, joined, kept, led, told_in
from tests.things import ANYTHING, BIG, OUTLANDISH, pt, val, way, xy

STILL = way(1, 0, 0, 1, 0, 0)
RIGHT = way(1, 0, 0, 1, 3, "-1/2")
QUARTER = way(0, -1, 1, 0, 0, 0)
DOUBLE = way(2, 0, 0, 2, 0, 0)
SLANT = way(1, 1, 0, 1, 0, 0)
MIRROR = way(-1, 0, 0, 1, 0, 0)
SLOPING = way("3/5", "-4/5", "4/5", "3/5", 7, "1/9")
WILD = way("1/2", "-7/3", 5, "2/11", "-9/4", BIG)
MAPS = (STILL, RIGHT, QUARTER, DOUBLE, SLANT, MIRROR, SLOPING, WILD)
POINTS = (pt(0, 0), pt(1, 0), pt(0, 1), pt("-5/3", "7/2"), pt(BIG, Fraction(1, BIG)))


def chance_map(chance, size):
    while True:
        numbers = [Fraction(chance.randint(-size, size), chance.randint(1, size)) for _ in range(6)]
        if numbers[0] * numbers[3] != numbers[1] * numbers[2]:
            return way(*numbers)


class Led(unittest.TestCase):
    def test_ordinary(self):
        self.assertEqual(led(STILL, pt("1/2", "-3/7")), pt("1/2", "-3/7"))
        self.assertEqual(led(RIGHT, pt(1, 1)), pt(4, "1/2"))
        self.assertEqual(led(QUARTER, pt(2, 1)), pt(-1, 2))
        self.assertEqual(led(way(1, 2, 3, 4, 5, 6), pt(10, 100)), pt(215, 436))
        self.assertEqual(led(way("1/2", "1/3", "1/5", "1/7", "1/6", "1/35"), pt(1, 2)), pt("4/3", "18/35"))

    def test_against_reckoning(self):
        chance = random.Random(20)
        for _ in range(500):
            one = chance_map(chance, chance.choice((2, 9, BIG)))
            point = pt(Fraction(chance.randint(-9, 9), chance.randint(1, 9)), chance.randint(-BIG, BIG))
            a, b, c, d, e, f = map(val, one)
            x, y = xy(point)
            self.assertEqual(xy(led(one, point)), (a * x + b * y + e, c * x + d * y + f))


class Joined(unittest.TestCase):
    def test_the_one_first_then_the_other(self):
        self.assertEqual(joined(RIGHT, DOUBLE), way(2, 0, 0, 2, 6, -1))
        self.assertEqual(joined(DOUBLE, RIGHT), way(2, 0, 0, 2, 3, "-1/2"))
        self.assertEqual(joined(QUARTER, SLANT), way(1, -1, 1, 0, 0, 0))
        self.assertEqual(joined(SLANT, QUARTER), way(0, -1, 1, 1, 0, 0))

    def test_leads_as_both_do(self):
        for one, other in itertools.product(MAPS, MAPS):
            for point in POINTS:
                self.assertEqual(led(joined(one, other), point), led(other, led(one, point)))

    def test_chance_maps(self):
        chance = random.Random(21)
        for _ in range(200):
            one, other = chance_map(chance, 9), chance_map(chance, BIG)
            whole = joined(one, other)
            for point in POINTS:
                self.assertEqual(led(whole, point), led(other, led(one, point)))


class Back(unittest.TestCase):
    def test_ordinary(self):
        self.assertEqual(back(STILL), STILL)
        self.assertEqual(back(RIGHT), way(1, 0, 0, 1, -3, "1/2"))
        self.assertEqual(back(QUARTER), way(0, 1, -1, 0, 0, 0))
        self.assertEqual(back(way(2, 0, 0, "1/3", 5, 7)), way("1/2", 0, 0, 3, "-5/2", -21))
        self.assertEqual(back(way(1, 2, 3, 4, 0, 0)), way(-2, 1, "3/2", "-1/2", 0, 0))

    def test_leads_back(self):
        chance = random.Random(22)
        for one in [*MAPS, *(chance_map(chance, size) for size in (2, 9, BIG) for _ in range(60))]:
            self.assertEqual(joined(one, back(one)), STILL)
            self.assertEqual(joined(back(one), one), STILL)
            self.assertEqual(back(back(one)), one)
            for point in POINTS:
                self.assertEqual(led(back(one), led(one, point)), point)


class Kept(unittest.TestCase):
    def told(self, words, *numbers):
        for e, f in ((0, 0), (5, "-1/3")):
            self.assertEqual(kept(way(*numbers, e, f)), tuple(words.split()))

    def test_moves_and_turns_keep_all(self):
        self.told("lengths angles areas turns", 1, 0, 0, 1)
        self.told("lengths angles areas turns", 0, -1, 1, 0)
        self.told("lengths angles areas turns", -1, 0, 0, -1)
        self.told("lengths angles areas turns", "3/5", "-4/5", "4/5", "3/5")

    def test_mirrors_keep_no_turns(self):
        self.told("lengths angles areas", -1, 0, 0, 1)
        self.told("lengths angles areas", 0, 1, 1, 0)
        self.told("lengths angles areas", "3/5", "4/5", "4/5", "-3/5")

    def test_stretched_alike_keep_angles(self):
        self.told("angles turns", 2, 0, 0, 2)
        self.told("angles turns", 1, -1, 1, 1)
        self.told("angles turns", "1/2", 0, 0, "1/2")
        self.told("angles", 2, 0, 0, -2)
        self.told("angles", 1, 1, 1, -1)

    def test_slanted_and_stretched_unlike(self):
        self.told("areas turns", 1, 1, 0, 1)
        self.told("areas turns", 2, 0, 0, "1/2")
        self.told("areas", 1, 1, 0, -1)
        self.told("areas", 2, 0, 0, "-1/2")
        self.told("turns", 2, 0, 0, 3)
        self.told("turns", 2, 0, 0, 1)
        self.told("turns", 1, 0, 0, 2)
        self.told("", 2, 0, 0, -3)
        self.told("", 1, 2, 3, 4)

    def test_lengths_ask_for_the_angle_too(self):
        # Both sides stay 1 long, but not at a right angle.
        self.told("turns", 1, "3/5", 0, "4/5")
        self.told("", "3/5", 1, "4/5", 0)

    def test_by_what_is_told_of_points(self):
        chance = random.Random(23)
        for _ in range(300):
            one = chance_map(chance, chance.choice((1, 2)))
            a, b, c, d, e, f = map(val, one)
            long, high, slope, by = a * a + c * c, b * b + d * d, a * b + c * d, a * d - b * c
            words = []
            if long == 1 and high == 1 and slope == 0:
                words.append("lengths")
            if long == high and slope == 0:
                words.append("angles")
            if by in (1, -1):
                words.append("areas")
            if by > 0:
                words.append("turns")
            self.assertEqual(kept(one), tuple(words))


NO_MAPS = [
    way(1, 1, 1, 1, 0, 0), way(0, 0, 0, 0, 0, 0), way(0, 0, 1, 1, 5, 5), way(0, 1, 0, 1, 0, 0),
    way("1/2", "1/3", "1/4", "1/6", 1, 2), way(BIG, BIG, -BIG, -BIG, 0, 0),
    way(1, 0, 0, 1, 0), way(1, 0, 0, 1), way(1, 0, 0, 1, 0, 0, 0), list(STILL), (1, 0, 0, 1, 0, 0), (),
    *[STILL[:at] + (bad,) + STILL[at + 1:] for at in range(6)
      for bad in (1, 0, True, None, (1, 0), (1, -1), (2, 2), (0, 2), (True, 1), (1, True), [1, 1], "1/1", (1,), 1.0)],
]


class NoMaps(unittest.TestCase):
    def test_each_is_refused_at_each_place(self):
        for thing in [*NO_MAPS, *ANYTHING, *OUTLANDISH]:
            for ask in (
                lambda: led(thing, pt(0, 0)), lambda: joined(thing, STILL), lambda: joined(STILL, thing),
                lambda: joined(thing, thing), lambda: back(thing), lambda: kept(thing),
            ):
                with self.assertRaises(NoMap) as told:
                    ask()
                self.assertIs(type(told.exception), NoMap)


FAMILY = (
    ("aa", "ground", SLOPING),
    ("bb", "ff", SLANT),
    ("cc", "bb", WILD),
    ("dd", "ground", MIRROR),
    ("ee", "aa", DOUBLE),
    ("ff", "dd", RIGHT),
)
NAMES = ("ground", "aa", "bb", "cc", "dd", "ee", "ff")


class AreFrames(unittest.TestCase):
    def test_none_to_six(self):
        names = ["a", "b", "c", "d", "e", "f", "g"]
        for many in range(7):
            self.assertIs(are_frames(tuple((name, "ground", RIGHT) for name in names[:many])), True)
        self.assertIs(are_frames(tuple((name, "ground", RIGHT) for name in names)), False)

    def test_told_by_one_another(self):
        self.assertIs(are_frames(FAMILY), True)
        chain = tuple((a, b, WILD) for a, b in zip("abcdef", [*"bcdef", "ground"]))
        self.assertIs(are_frames(chain), True)
        chain = tuple((a, b, WILD) for a, b in zip("abcdef", ["ground", *"abcde"]))
        self.assertIs(are_frames(chain), True)

    def test_names_are_words(self):
        for name in ("a", "z", "grounds", "abcdefgh", "zzzzzzzz", "land", "groun"):
            self.assertIs(are_frames(((name, "ground", STILL),)), True)
        for name in ("", "abcdefghi", "A", "aB", "a b", "a1", "1", "a-", "\u00e4", "\u0430", "a\n", " a", "{", "`",
                     None, True, 1, ("a",), ["a"], b"a", {}):
            self.assertIs(are_frames(((name, "ground", STILL),)), False, name)

    def test_ground_is_no_name(self):
        self.assertIs(are_frames((("ground", "ground", STILL),)), False)
        self.assertIs(are_frames((("a", "ground", STILL), ("ground", "a", STILL))), False)

    def test_names_unlike_and_rising(self):
        one, two, three = ("a", "ground", STILL), ("ab", "ground", STILL), ("b", "ground", STILL)
        self.assertIs(are_frames((one, two, three)), True)
        for wrong in ((two, one), (three, two), (one, three, two), (one, one), (one, two, two)):
            self.assertIs(are_frames(wrong), False)

    def test_names_twice_though_the_tuples_rise(self):
        self.assertIs(are_frames((("a", "b", STILL), ("a", "ground", STILL), ("b", "ground", STILL))), False)
        self.assertIs(are_frames((("a", "ground", MIRROR), ("a", "ground", STILL))), False)

    def test_an_other_that_there_is_not(self):
        self.assertIs(are_frames((("a", "b", STILL),)), False)
        self.assertIs(are_frames((("a", "c", STILL), ("b", "ground", STILL))), False)
        for other in ("", "Ground", "GROUND", "ground ", None, True, 0, ["ground"], ("ground",), {}, b"ground"):
            self.assertIs(are_frames((("a", other, STILL),)), False)

    def test_itself_as_other(self):
        self.assertIs(are_frames((("a", "a", STILL),)), False)
        self.assertIs(are_frames((("a", "ground", STILL), ("b", "b", STILL))), False)

    def test_a_ring_of_others(self):
        self.assertIs(are_frames((("a", "b", STILL), ("b", "a", STILL))), False)
        self.assertIs(are_frames((("a", "b", STILL), ("b", "c", STILL), ("c", "a", STILL))), False)
        self.assertIs(are_frames((("a", "b", STILL), ("b", "c", STILL), ("c", "b", STILL))), False)
        six = tuple((a, b, STILL) for a, b in zip("abcdef", "bcdefa"))
        self.assertIs(are_frames(six), False)
        self.assertIs(are_frames((("a", "ground", STILL), ("b", "c", STILL), ("c", "b", STILL))), False)

    def test_maps_that_are_none(self):
        for thing in [*NO_MAPS, *ANYTHING, *OUTLANDISH]:
            self.assertIs(are_frames((("a", "ground", thing),)), False)
            self.assertIs(are_frames((("a", "ground", STILL), ("b", "a", thing))), False)

    def test_lists_and_other_shapes(self):
        frame = ("a", "ground", STILL)
        for wrong in ([frame], (list(frame),), frame, (frame[:2],), ((*frame, 1),), ((),), ("abc",), {"a": frame}):
            self.assertIs(are_frames(wrong), False)

    def test_of_anything(self):
        self.assertIs(are_frames(()), True)
        for thing in [*ANYTHING, *OUTLANDISH]:
            self.assertIs(are_frames(thing), False)


class Between(unittest.TestCase):
    def test_a_frame_and_the_ground(self):
        frames = (("town", "ground", RIGHT),)
        self.assertEqual(between(frames, "town", "ground"), RIGHT)
        self.assertEqual(between(frames, "ground", "town"), way(1, 0, 0, 1, -3, "1/2"))
        self.assertEqual(between((), "ground", "ground"), STILL)

    def test_by_way_of_others(self):
        frames = (("inner", "outer", DOUBLE), ("outer", "ground", RIGHT))
        self.assertEqual(between(frames, "inner", "outer"), DOUBLE)
        self.assertEqual(between(frames, "inner", "ground"), way(2, 0, 0, 2, 3, "-1/2"))
        self.assertEqual(between(frames, "ground", "inner"), way("1/2", 0, 0, "1/2", "-3/2", "1/4"))
        frames = (("left", "ground", RIGHT), ("right", "ground", QUARTER))
        self.assertEqual(between(frames, "left", "right"), joined(RIGHT, back(QUARTER)))
        self.assertEqual(between(frames, "right", "left"), joined(QUARTER, back(RIGHT)))

    def test_each_frame_to_its_other_one(self):
        for name, other, one in FAMILY:
            self.assertEqual(between(FAMILY, name, other), one)
            self.assertEqual(between(FAMILY, other, name), back(one))

    def test_one_twice(self):
        for name in NAMES:
            self.assertEqual(between(FAMILY, name, name), STILL)

    def test_over_a_third_one(self):
        for one, two, three in itertools.product(NAMES, NAMES, NAMES):
            whole = joined(between(FAMILY, one, two), between(FAMILY, two, three))
            self.assertEqual(whole, between(FAMILY, one, three))


class ToldIn(unittest.TestCase):
    def test_ordinary(self):
        frames = (("inner", "outer", DOUBLE), ("outer", "ground", RIGHT))
        self.assertEqual(told_in(frames, "inner", "ground", pt(1, 1)), pt(5, "3/2"))
        self.assertEqual(told_in(frames, "ground", "inner", pt(5, "3/2")), pt(1, 1))
        self.assertEqual(told_in((), "ground", "ground", pt(5, "3/2")), pt(5, "3/2"))

    def test_as_the_map_between_leads(self):
        for one, other in itertools.product(NAMES, NAMES):
            for point in POINTS:
                self.assertEqual(told_in(FAMILY, one, other, point), led(between(FAMILY, one, other), point))

    def test_through_frames_and_back_is_itself(self):
        chance = random.Random(24)
        for point in POINTS:
            for _ in range(20):
                walk = [chance.choice(NAMES) for _ in range(8)]
                walk.append(walk[0])
                place = point
                for one, other in zip(walk, walk[1:]):
                    place = told_in(FAMILY, one, other, place)
                self.assertEqual(place, point)


class NoFramesNorFrame(unittest.TestCase):
    def refused(self, error, ask):
        with self.assertRaises(error) as told:
            ask()
        self.assertIs(type(told.exception), error)

    def test_no_frames(self):
        wrong = [(("a", "a", STILL),), (("b", "ground", STILL), ("a", "ground", STILL)), [], list(FAMILY),
                 (("a", "ground", NO_MAPS[0]),), tuple((name, "ground", STILL) for name in "abcdefg")]
        for thing in [*wrong, *ANYTHING, *OUTLANDISH]:
            self.refused(NoFrames, lambda: between(thing, "ground", "ground"))
            self.refused(NoFrames, lambda: told_in(thing, "ground", "ground", pt(0, 0)))

    def test_no_frame(self):
        names = ["gg", "a", "aaa", "", "AA", "Ground", "ground ", b"aa", ["aa"], ("aa",), FAMILY[0], {"aa": 1}]
        anything = [thing for thing in [*ANYTHING, *OUTLANDISH] if not isinstance(thing, str)]
        for thing in [*names, *anything]:
            self.refused(NoFrame, lambda: between(FAMILY, thing, "ground"))
            self.refused(NoFrame, lambda: between(FAMILY, "aa", thing))
            self.refused(NoFrame, lambda: between(FAMILY, thing, thing))
            self.refused(NoFrame, lambda: told_in(FAMILY, thing, "aa", pt(0, 0)))
            self.refused(NoFrame, lambda: told_in(FAMILY, "ground", thing, pt(0, 0)))
        self.refused(NoFrame, lambda: between((), "aa", "ground"))
        self.refused(NoFrame, lambda: between((), "aa", "aa"))
