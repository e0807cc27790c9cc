"""Maps that lead points, and the frames in which points are told ([20], [21])."""

from onewhere.errors import NoFrame, NoFrames, NoMap
from onewhere.exact import ONE, ZERO, amount, is_fraction, is_rising, is_tuple, is_word
from onewhere.exact import minus, order, over, plus, times
from onewhere.points import check_point

GROUND = "ground"
MOST_FRAMES = 6
STILL = ((1, 1), (0, 1), (0, 1), (1, 1), (0, 1), (0, 1))


def stretch(way):
    """a d - b c: by how much a map makes areas greater, below 0 where it mirrors."""
    a, b, c, d, e, f = way
    return minus(times(a, d), times(b, c))


def is_map(thing):
    """Whether this is a tuple of six fractions, a d not b c."""
    if not is_tuple(thing, 6, 6):
        return False
    return all(is_fraction(part) for part in thing) and stretch(thing) != ZERO


def check_map(thing):
    if not is_map(thing):
        raise NoMap("this is no map: a tuple (a, b, c, d, e, f) of fractions, a d not b c")


def moved(way, point):
    """Where a map leads a point; both are known to be such."""
    a, b, c, d, e, f = way
    x, y = point
    return plus(plus(times(a, x), times(b, y)), e), plus(plus(times(c, x), times(d, y)), f)


def one_then_other(way, other):
    """The map that does way first, then other; both are known to be maps."""
    a, b, c, d, e, f = way
    # A map does to (a, c) and (b, d) what it does to points, but for its own e and f.
    turning = other[:4] + (ZERO, ZERO)
    a, c = moved(turning, (a, c))
    b, d = moved(turning, (b, d))
    e, f = moved(other, (e, f))
    return a, b, c, d, e, f


def leading_back(way):
    """The map that leads back where way led away; it is known to be a map."""
    a, b, c, d, e, f = way
    by = stretch(way)
    a, b, c, d = over(d, by), over(minus(ZERO, b), by), over(minus(ZERO, c), by), over(a, by)
    e, f = moved((a, b, c, d, ZERO, ZERO), (minus(ZERO, e), minus(ZERO, f)))
    return a, b, c, d, e, f


def led(way, point):
    """Where the map leads the point."""
    check_map(way)
    check_point(point)
    return moved(way, point)


def joined(way, other):
    """The map that does the one first, then the other."""
    check_map(way)
    check_map(other)
    return one_then_other(way, other)


def back(way):
    """The map that leads back."""
    check_map(way)
    return leading_back(way)


def kept(way):
    """Those of "lengths", "angles", "areas" and "turns" that the map keeps, in this order."""
    check_map(way)
    a, b, c, d, e, f = way
    right = plus(times(a, a), times(c, c))
    up = plus(times(b, b), times(d, d))
    angles = right == up and plus(times(a, b), times(c, d)) == ZERO
    by = stretch(way)
    answers = (
        ("lengths", angles and right == ONE),
        ("angles", angles),
        ("areas", amount(by) == ONE),
        ("turns", order(by, ZERO) > 0),
    )
    return tuple([word for word, is_so in answers if is_so])


def is_frame(thing):
    """Whether this is (name, other, map), whatever the other frames are."""
    if not is_tuple(thing, 3, 3):
        return False
    name, other, way = thing
    return is_word(name) and name != GROUND and is_word(other) and is_map(way)


def comes_to_ground(others, name):
    """Whether one comes from a name to the ground, each time on to the other one of the frame."""
    # More steps than there are frames lead to nothing new, so a ring of others ends here too.
    for step in range(len(others)):
        name = others.get(name, name)
    return name == GROUND


def are_frames(thing):
    """Whether these are frames: each told by another one or the ground, and so by the ground at last."""
    if not is_tuple(thing, 0, MOST_FRAMES) or not all(is_frame(part) for part in thing):
        return False
    names = [name for name, other, way in thing]
    others = {name: other for name, other, way in thing}
    return is_rising(names) and all(comes_to_ground(others, name) for name in names)


def check_frames(thing):
    if not are_frames(thing):
        raise NoFrames("these are no frames: a rising tuple of (name, other, map) that come to the ground")


def has_frame(frames, thing):
    """Whether this is the name of one of the frames, or of the ground."""
    return is_word(thing) and thing in [GROUND] + [name for name, other, way in frames]


def check_frame(frames, thing):
    if not has_frame(frames, thing):
        raise NoFrame("this is neither the ground nor one of the frames")


def to_ground(frames, name):
    """The map from a frame, or the ground, to the ground."""
    steps = {frame: (other, way) for frame, other, way in frames}
    whole = STILL
    while name != GROUND:
        name, way = steps[name]
        whole = one_then_other(whole, way)
    return whole


def from_ground(frames, name):
    """The map from the ground to a frame, or the ground."""
    return leading_back(to_ground(frames, name))


def between(frames, one, other):
    """The map from a point as told in one frame to the same place as told in the other one."""
    check_frames(frames)
    check_frame(frames, one)
    check_frame(frames, other)
    return one_then_other(to_ground(frames, one), from_ground(frames, other))


def told_in(frames, one, other, point):
    """The place that is told in one frame by this point, as told in the other one."""
    way = between(frames, one, other)
    check_point(point)
    return moved(way, point)
