"""An atlas, and what is a form of it on day 5, and what is none."""

from fractions import Fraction

from tests.things import BIG, Prickly, fr, pt, pts, way

LITTLE = Fraction(1, BIG)
# A point told in `near` lies three further to the right on the ground and twice as far off; `far` lies behind it.
FRAMES = (("far", "near", way(0, -1, 1, 0, 1, 0)), ("near", "ground", way(2, 0, 0, 2, 3, 0)))
# A square of roads about the ground from 0 to 12, road 2 by the way of its left upper corner; road 3 leads off it;
# road 4 goes across, over road 0, at (8, 0), without meeting it.
WEB = (
    pts((0, 0), (12, 0), (12, 12), (40, 12), (8, 8), (8, 20)),
    (
        (0, 1, (), 2),
        (1, 2, (), 1),
        (2, 0, pts((0, 12)), 2),
        (2, 3, (), 2),
        (4, 5, pts((8, 0), (4, 4)), 1),
    ),
)
ROWS = (
    ("elm", 2, 1, 4, 1, 5, 9),
    ("fir", 0, 3, 5, 2, 0, 50),
    ("oak", 0, 1, 3, 1, 0, 10),
    ("oak", 1, 4, 4, 1, 0, 10),
)
MOVES = ((0, ("0000", "0001"), "west"), (4, ("0001", "03"), "east"), (6, ("0001",), "west"), (8, ("",), "north"))
ATLAS = (FRAMES, WEB, ROWS, MOVES)
BARE = ((), (pts((1, 1)), ()), (), ())

# Forms that are there on day 5, one of each kind and more.
GOOD = (
    ("point", "ground", fr(1), fr("1/2")), ("point", "near", fr(-7), fr(BIG)), ("point", "far", fr(0), fr(0)),
    ("tile", ""), ("tile", "0"), ("tile", "012301230"),
    ("spot", 0, fr(0)), ("spot", 0, fr(12)), ("spot", 4, fr("1/3")),
    ("address", "oak", 1), ("address", "oak", 4), ("address", "elm", 4), ("address", "fir", 5),
    ("region", "west"), ("region", "east"), ("region", "land"),
)
# Things that are none on day 5, each by one thing.
BAD = (
    ("point", "other", fr(1), fr(1)), ("point", "Ground", fr(1), fr(1)), ("point", None, fr(1), fr(1)),
    ("point", "ground", 1, fr(1)), ("point", "ground", fr(1), 1), ("point", "ground", (2, 2), fr(1)),
    ("point", "ground", (True, 1), fr(1)), ("point", "ground", fr(1), (1, True)), ("point", "ground", fr(1), [1, 1]),
    ("point", "ground", pt(1, 1)), ("point", "ground", fr(1)), ("point", "ground", fr(1), fr(1), fr(1)),
    ("point", fr(1), fr(1)), ("point", ["ground"], fr(1), fr(1)), ("point", "ground", fr(1), fr(1), ""),
    ["point", "ground", fr(1), fr(1)], ("points", "ground", fr(1), fr(1)), ("Point", "ground", fr(1), fr(1)),
    ("tile", "4"), ("tile", "0" * 10), ("tile", 0), ("tile", None), ("tile", ("0",)), ("tile", "-"), ("tile", "0", "1"),
    ("tile",), ["tile", "0"], ("tiles", "0"), ("tile", b"0"), ("tile", True),
    ("spot", 5, fr(0)), ("spot", -1, fr(0)), ("spot", True, fr(0)), ("spot", 0, fr(13)), ("spot", 0, fr(12 + LITTLE)),
    ("spot", 0, fr(-1)), ("spot", 0, 0), ("spot", 0, (2, 2)), ("spot", 0, (True, 1)), ("spot", (0, fr(0))),
    ("spot", 0), ("spot", 0, fr(0), fr(0)), ["spot", 0, fr(0)], ("spot", "0", fr(0)), ("spot", None, None),
    ("address", "oak", 5), ("address", "oak", 0), ("address", "oak", -1), ("address", "oak", BIG), ("address", "ash", 1),
    ("address", "Oak", 1), ("address", "", 1), ("address", "oak", True), ("address", "oak", "1"), ("address", 1, "oak"),
    ("address", "oak", None), ("address", "oak"), ("address", "oak", 1, 1), ["address", "oak", 1], ("address", "fir", 4),
    ("address", "oak", fr(1)),
    ("region", "north"), ("region", "nowhere"), ("region", "West"), ("region", ""), ("region", None), ("region", 1),
    ("region", True), ("region",), ("region", "west", "east"), ["region", "west"], ("region", ("west",)),
    ("", ""), ("form", "west"), (None, "west"), (0, 0), (), "point", "region west", None, 0, True, {}, pt(1, 1),
    (Prickly(), "west"), ("region", Prickly()), ("tile", Prickly()), ("spot", Prickly(), fr(0)),
    ("spot", 0, Prickly()), ("address", Prickly(), 1), ("address", "oak", Prickly()),
    ("point", Prickly(), fr(1), fr(1)), ("point", "ground", Prickly(), Prickly()), Prickly(),
)


def spot(road, far):
    return ("spot", road, fr(far))


def at(x, y, frame="ground"):
    return ("point", frame, fr(x), fr(y))
