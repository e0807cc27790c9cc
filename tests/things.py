"""What several tests need: short ways to write points, and things of every kind that are none."""

import unittest
from fractions import Fraction

from onewhere.errors import WhereError

BIG = 10 ** 30 - 1
BIG_ODD = 10 ** 30 - 3


class Refusals(unittest.TestCase):
    """What tests of refusals need."""

    def refused(self, refusal, ask, *handed, **by_name):
        """What is handed in is refused, by the very class that is told, with some words."""
        with self.assertRaises(WhereError) as told:
            ask(*handed, **by_name)
        self.assertIs(type(told.exception), refusal, (handed, by_name))
        self.assertTrue(str(told.exception))


class Prickly:
    """A thing that bears no question at all: it must be told from the others by its kind alone."""

    def __eq__(self, other):
        raise RuntimeError("asked whether it is like another")

    __hash__ = None

    def __len__(self):
        raise RuntimeError("asked how long it is")

    def __bool__(self):
        raise RuntimeError("asked whether it is true")

    def __iter__(self):
        raise RuntimeError("asked for its parts")

    def __getitem__(self, at):
        raise RuntimeError("asked for a part")

    def __lt__(self, other):
        raise RuntimeError("asked whether it is less")


def fr(number):
    """The package's fraction of an int, a Fraction or a text such as "-7/2"."""
    number = Fraction(number)
    return (number.numerator, number.denominator)


def pt(x, y):
    return (fr(x), fr(y))


def pts(*pairs):
    return tuple(pt(x, y) for x, y in pairs)


def way(*numbers):
    return tuple(fr(number) for number in numbers)


def val(fraction):
    """The Fraction of the package's fraction, which must be written in least terms."""
    top, bottom = fraction
    assert type(fraction) is tuple and type(top) is int and type(bottom) is int
    worth = Fraction(top, bottom)
    assert (worth.numerator, worth.denominator) == fraction, fraction
    return worth


def xy(point):
    assert type(point) is tuple
    x, y = point
    return val(x), val(y)


def either_way_from_each_corner(ring):
    """(ring, way about): the same points, 1 as the ring itself goes, -1 the other way about."""
    for at in range(len(ring)):
        turned = ring[at:] + ring[:at]
        yield turned, 1
        yield turned[::-1], -1


def deep(thing, depth=10):
    """The thing so deep in tuples and lists by turns."""
    for level in range(depth):
        thing = [thing] if level % 2 else (thing,)
    return thing


# No points, maps, rings, frames, or names of frames, each by its very kind.
ANYTHING = [
    0, 1, -1, BIG, -BIG, True, False, None, "", "a", "ground", "x" * 2000, "a\tb\n~ !",
    [], {}, [()], ((),), (((),),), [[]], {"x": 1}, {1: (0, 1)}, {(0, 1): {(0, 1): []}},
    [(0, 1), (0, 1)], {"x": (0, 1), "y": (0, 1)}, deep(1), deep((), 9), deep([], 9), deep({1: 2}, 9),
    list(range(1999)), tuple(range(1999)), tuple([(0, 1)] * 600), tuple([((0, 1), (0, 1))] * 200),
    {at: None for at in range(999)}, (None,), (None, None), (None,) * 3, (None,) * 6, ("a", "ground", None),
    (True, False), ((True, 1), (0, 1)), ("ab", "cd"), ("01", "01"), ([0, 1], [0, 1]), ({}, {}), ({0: 1}, {0: 1}),
]

# Things of kinds that the package never tells, but must refuse where a refusal is told.
OUTLANDISH = [
    0.0, float("nan"), float("inf"), 1j, b"", b"ab", bytearray(b"ab"), set(), {0, 1}, frozenset([0, 1]), range(2),
    Fraction(1, 2), int, tuple, len, object(), Ellipsis, NotImplemented, ValueError("x"), Prickly(),
    iter([0, 1]), (x for x in (0, 1)), lambda: 0,
    (Prickly(), Prickly()), (Prickly(),) * 3, (Prickly(),) * 6, ((Prickly(), 1), (0, Prickly())),
]
