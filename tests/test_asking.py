"""[2]: what holds of every function: refusals, their order, names of arguments, nothing changed."""

import copy
import inspect
import itertools
import unittest

from onewhere import errors, frames, points, rings
from onewhere.errors import NoFrame, NoFrames, NoMap, NoPoint, NoRing
from tests.things import ANYTHING, BIG, OUTLANDISH, pt, pts, way

POINT = (pt(1, "1/2"), NoPoint)
MAP = (way(0, -1, 1, 0, 3, "1/2"), NoMap)
FRAMES = ((("inner", "outer", way(2, 1, 0, 1, 0, 0)), ("outer", "ground", way(1, 0, 0, -1, 5, 5))), NoFrames)
ONE = ("inner", NoFrame)
OTHER = ("ground", NoFrame)
RING = (pts((0, 0), (4, 0), (4, 4), (1, 3)), NoRing)

# Each function with its arguments by the names told: something good, and the refusal of what is not.
REFUSING = (
    (points.turn, {"one": POINT, "two": (pt(2, 2), NoPoint), "three": (pt(0, 3), NoPoint)}),
    (points.squared, {"one": POINT, "other": (pt(2, 5), NoPoint)}),
    (points.streetwise, {"one": POINT, "other": (pt(2, 5), NoPoint)}),
    (points.boxwise, {"one": POINT, "other": (pt(2, 5), NoPoint)}),
    (frames.led, {"way": MAP, "point": POINT}),
    (frames.joined, {"way": MAP, "other": (way(1, 1, 0, 1, 0, 0), NoMap)}),
    (frames.back, {"way": MAP}),
    (frames.kept, {"way": MAP}),
    (frames.between, {"frames": FRAMES, "one": ONE, "other": OTHER}),
    (frames.told_in, {"frames": FRAMES, "one": ONE, "other": OTHER, "point": POINT}),
    (rings.area, {"ring": RING}),
    (rings.sense, {"ring": RING}),
    (rings.lies, {"ring": RING, "point": POINT}),
    (rings.wound, {"ring": RING, "point": POINT}),
    (rings.nearest, {"ring": RING, "point": POINT}),
)
OF_ANYTHING = ((points.is_point, POINT[0]), (frames.are_frames, FRAMES[0]), (rings.is_ring, RING[0]))

# Nearly right, each in one thing only: truths, lists, terms that are not the least.
NEARLY = {
    NoPoint: [((True, 1), (0, 1)), ((1, True), (0, 1)), [(0, 1), (0, 1)], ((0, 1), [0, 1]), ((2, 2), (0, 1)), (1, 1),
              ((0, 1), (1, -1)), ((0, 1), (0, 1), (0, 1)), ((0, 1), (1, 0)), ((0, 1), (0, 3)), RING[0], MAP[0]],
    NoMap: [way(1, 2, 2, 4, 0, 0), list(way(1, 0, 0, 1, 0, 0)), (True, *way(0, 0, 1, 0, 0)), POINT[0], RING[0],
            way(1, 0, 0, 1, 0, 0)[:5] + ((False, 1),)],
    NoFrames: [list(FRAMES[0]), FRAMES[0][::-1], FRAMES[0][:1], FRAMES[0] + FRAMES[0], FRAMES[0][0], POINT[0]],
    NoFrame: ["other", "Inner", "", "inner ", "grounds", ["inner"], ("inner",), FRAMES[0][0], True, 0],
    NoRing: [list(RING[0]), RING[0][:2], RING[0] + RING[0], RING[0][:2] + RING[0][:1:-1] + (pt(2, 0),), POINT[0],
             pts((0, 0), (1, 1), (2, 2)), pts((0, 0), (4, 4), (4, 0), (0, 4)), MAP[0]],
}


def is_so(refusal, thing):
    """Whether a thing out of the common lists happens to be nothing to refuse."""
    if refusal is NoFrames:
        return thing == ()
    return refusal is NoFrame and isinstance(thing, str) and thing in ("ground", "inner", "outer")


def wrong_things(refusal):
    wild = OUTLANDISH + [thing for thing in [(), *ANYTHING] if not is_so(refusal, thing)]
    return NEARLY[refusal] + wild


class Asking(unittest.TestCase):
    def refused(self, refusal, ask, handed):
        with self.assertRaises(errors.WhereError) as told:
            ask(*handed)
        self.assertIs(type(told.exception), refusal)
        self.assertTrue(str(told.exception))

    def test_every_function_of_the_interface_is_here(self):
        told = {
            points: "is_point turn squared streetwise boxwise",
            frames: "led joined back kept are_frames between told_in",
            rings: "is_ring area sense lies wound nearest",
        }
        asked = [ask for ask, _ in REFUSING] + [ask for ask, _ in OF_ANYTHING]
        for module, names in told.items():
            for name in names.split():
                self.assertIn(getattr(module, name), asked)

    def test_the_arguments_are_those_told(self):
        for ask, arguments in REFUSING:
            self.assertEqual(list(inspect.signature(ask).parameters), list(arguments))
        for ask, _ in OF_ANYTHING:
            self.assertEqual(list(inspect.signature(ask).parameters), ["thing"])

    def test_by_place_and_by_name(self):
        for ask, arguments in REFUSING:
            good = {name: worth for name, (worth, _) in arguments.items()}
            answer = ask(*good.values())
            for many in range(len(good) + 1):
                behind = dict(list(good.items())[many:][::-1])
                self.assertEqual(ask(*list(good.values())[:many], **behind), answer)
        for ask, good in OF_ANYTHING:
            self.assertIs(ask(good), True)
            self.assertIs(ask(thing=good), True)

    def test_asked_again(self):
        for ask, arguments in REFUSING:
            good = [worth for worth, _ in arguments.values()]
            answer = ask(*good)
            with self.assertRaises(errors.WhereError):
                ask(*[None for _ in good])
            self.assertEqual(ask(*good), answer)
            self.assertEqual(ask(*copy.deepcopy(good)), answer)

    def test_each_argument_is_refused_by_itself(self):
        for ask, arguments in REFUSING:
            good = [worth for worth, _ in arguments.values()]
            for at, (_, refusal) in enumerate(arguments.values()):
                for thing in wrong_things(refusal):
                    self.refused(refusal, ask, good[:at] + [thing] + good[at + 1:])

    def test_the_first_wrong_one_is_refused(self):
        for ask, arguments in REFUSING:
            rows = list(arguments.values())
            for wrong in itertools.product((False, True), repeat=len(rows)):
                if True not in wrong:
                    continue
                first = rows[wrong.index(True)][1]
                for pick in range(4):
                    handed = [NEARLY[refusal][pick] if bad else good for (good, refusal), bad in zip(rows, wrong)]
                    self.refused(first, ask, handed)

    def test_of_anything(self):
        for ask, _ in OF_ANYTHING:
            for thing in [*ANYTHING, *OUTLANDISH]:
                self.assertIs(ask(thing), False)
        self.assertIs(points.is_point(()), False)
        self.assertIs(frames.are_frames(()), True)
        self.assertIs(rings.is_ring(()), False)

    def test_truths_are_no_whole_numbers(self):
        self.assertIs(points.is_point(((1, 1), (0, 1))), True)
        for point in (((True, 1), (0, 1)), ((1, True), (0, 1)), ((1, 1), (False, 1)), ((1, 1), (0, True))):
            self.assertIs(points.is_point(point), False)
            self.assertIs(rings.is_ring((point, pt(5, 0), pt(5, 5))), False)
            self.assertIs(frames.are_frames((("a", "ground", (*point, *way(0, 1, 0, 0))),)), False)

    def test_nothing_handed_in_is_changed(self):
        for ask, _ in OF_ANYTHING:
            for thing in ANYTHING:
                before = copy.deepcopy(thing)
                ask(thing)
                self.assertEqual(thing, before)
        for ask, arguments in REFUSING:
            for thing in ANYTHING:
                if isinstance(thing, (list, dict)):
                    before = copy.deepcopy(thing)
                    self.refused(list(arguments.values())[0][1], ask, [thing for _ in arguments])
                    self.assertEqual(thing, before)

    def test_numbers_of_30_figures_everywhere(self):
        big = (BIG, 1)
        small = (1, BIG)
        one, other = (big, small), (small, big)
        self.assertEqual(points.turn(one, other, one), 0)
        self.assertEqual(points.streetwise(one, other), (2 * (BIG * BIG - 1), BIG))
        self.assertEqual(points.boxwise(one, other), (BIG * BIG - 1, BIG))
        whole = (big, small, small, big, big, big)
        self.assertEqual(frames.led(frames.back(whole), frames.led(whole, one)), one)
        ring = (one, other, ((-BIG, 1), (-BIG, 1)))
        self.assertIs(rings.is_ring(ring), True)
        self.assertEqual(rings.lies(ring, one), "on")
