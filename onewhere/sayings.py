"""What is said of shapes with one another: how two rings lie, and the hull of points ([32], [33])."""

from onewhere.errors import NoPoints
from onewhere.exact import in_order, is_tuple
from onewhere.points import is_point, over_one_bottom, point_in_least_terms, point_order, turned
from onewhere.rings import FEWEST_CORNERS, check_ring, is_between, on_side, place, sides, sides_meet

MOST_POINTS = 12


def crossed(one, other):
    """The line through two points, or the point of two lines, each three whole numbers.

    A point is (x, y, bottom); it is on a line where the products of their parts add up to 0.
    """
    a, b, c = one
    d, e, f = other
    return b * f - c * e, c * d - a * f, a * e - b * d


def line_of(side):
    return crossed(over_one_bottom(side[0]), over_one_bottom(side[1]))


def meeting(side, other):
    """The point where the lines of two sides meet, None where they go alike.

    It is not in least terms: here just the order and the turns of such points are asked for.
    """
    x, y, bottom = crossed(line_of(side), line_of(other))
    if bottom == 0:
        return None
    if bottom < 0:
        x, y, bottom = -x, -y, -bottom
    return (x, bottom), (y, bottom)


def common_point(side, other):
    """Some point that two sides have in common, None where there is none; either may be without length."""
    ends = [end for end in other if on_side(side, end)] + [end for end in side if on_side(other, end)]
    if ends:
        return ends[0]
    # Sides that go alike have one's end in common, if anything.
    return point_in_least_terms(meeting(side, other)) if sides_meet(side, other) else None


def half_way(one, other):
    """The middle of two points, not in least terms."""
    (x, x_bottom), (y, y_bottom) = one
    (right, right_bottom), (up, up_bottom) = other
    along = (x * right_bottom + right * x_bottom, 2 * x_bottom * right_bottom)
    return along, (y * up_bottom + up * y_bottom, 2 * y_bottom * up_bottom)


def cuts(side, others):
    """The points where the lines of other sides cut a side, and its ends, in their order, some alike."""
    one, other = side
    found = [meeting(side, line) for line in others]
    inside = [point for point in found if point is not None and is_between(one, other, point)]
    return in_order([one, other] + inside, point_order)


def middles(points):
    """The middles between each two points behind one another."""
    return [half_way(one, other) for one, other in zip(points, points[1:])]


def rim_places(ring, other):
    """Where the parts of a ring's rim lie to another ring.

    Between two cuts the rim doesn't get from one place to another, so the middle tells it of the part.
    Sides that go alike needn't cut: where one ends on the other, the next one cuts there.
    """
    others = sides(other)
    return [place(other, middle) for side in sides(ring) for middle in middles(cuts(side, others))]


def rims_meet(ring, other):
    return any(sides_meet(side, line) for side in sides(ring) for line in sides(other))


def held(ring, other):
    """How two rings lie: "same", "in", "holds", "apart", "touch" or "cross"."""
    check_ring(ring)
    check_ring(other)
    here = rim_places(ring, other)
    there = rim_places(other, ring)
    # A ring has no holes, so it lies in another one where its rim does.
    if "out" not in here:
        return "in" if "out" in there else "same"
    if "out" not in there:
        return "holds"
    # Neither holds the other one: where any ground is in both, the rim of each leads through the other.
    if "in" in here:
        return "cross"
    return "touch" if rims_meet(ring, other) else "apart"


def check_hull_points(thing):
    if not is_tuple(thing, 1, MOST_POINTS) or not all(is_point(part) for part in thing):
        raise NoPoints("these are no points: a tuple of one to twelve points")


def left_about(points):
    """Those of the points at which a way along all of them, in their order, must turn to the left."""
    way = []
    for point in points:
        while len(way) > 1 and turned(way[-2], way[-1], point) <= 0:
            way.pop()
        way.append(point)
    return way


def hull(points):
    """The ring about the points, to the left, from its least corner on; None where all are on a line."""
    check_hull_points(points)
    rising = in_order(points, point_order)
    below = left_about(rising)
    above = left_about(rising[::-1])
    # Each of both ways ends where the other one begins.
    corners = below[:-1] + above[:-1]
    return tuple(corners) if len(corners) >= FEWEST_CORNERS else None
