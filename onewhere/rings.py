"""Rings: their area and sense, and how a point lies to them ([30], [31])."""

from onewhere.errors import NoRing
from onewhere.exact import HALF, ONE, ZERO, amount, is_tuple, minus, order, over, plus, sign, times
from onewhere.points import check_point, is_point, part_of_way, point_order, squared_apart, turned

FEWEST_CORNERS = 3
MOST_CORNERS = 12


def sides(corners):
    """The sides, each a pair of corners; the first one is tied from the last corner to the first."""
    return [(corners[at - 1], corners[at]) for at in range(len(corners))]


def is_between(one, other, point):
    """Whether a point that is known to be on a line with both lies between them, or at one of them."""
    right = order(one[0], point[0]) * order(point[0], other[0])
    up = order(one[1], point[1]) * order(point[1], other[1])
    return right >= 0 and up >= 0


def on_side(side, point):
    one, other = side
    return turned(one, other, point) == 0 and is_between(one, other, point)


def sides_meet(side, other):
    """Whether two sides have a point in common."""
    a, b = side
    c, d = other
    if turned(a, b, c) * turned(a, b, d) < 0 and turned(c, d, a) * turned(c, d, b) < 0:
        return True
    return on_side(side, c) or on_side(side, d) or on_side(other, a) or on_side(other, b)


def bends_at_each_corner(corners):
    """Whether no corner is on a line with both its neighbours, so that neighbouring sides share just it."""
    return all(turned(corners[at - 2], corners[at - 1], corners[at]) != 0 for at in range(len(corners)))


def keeps_clear_of_itself(corners):
    """Whether no two sides meet that are no neighbours."""
    rows = sides(corners)
    last = len(rows) - 1
    for at in range(len(rows)):
        for behind in range(at + 2, len(rows)):
            are_neighbours = at == 0 and behind == last
            if not are_neighbours and sides_meet(rows[at], rows[behind]):
                return False
    return True


def is_ring(thing):
    """Whether this is a tuple of three to twelve corners whose sides keep clear of one another."""
    if not is_tuple(thing, FEWEST_CORNERS, MOST_CORNERS) or not all(is_point(corner) for corner in thing):
        return False
    return bends_at_each_corner(thing) and keeps_clear_of_itself(thing)


def check_ring(thing):
    if not is_ring(thing):
        raise NoRing("this is no ring: a tuple of three to twelve corners whose sides keep clear of one another")


def area_to_the_left(ring):
    """The area of a ring that is known to be one, below 0 where its inside is on the right."""
    double = ZERO
    for (x, y), (x_next, y_next) in sides(ring):
        double = plus(double, minus(times(x, y_next), times(x_next, y)))
    return times(double, HALF)


def area(ring):
    """The ring's area."""
    check_ring(ring)
    return amount(area_to_the_left(ring))


def sense(ring):
    """1 where the inside is on the left, going along the corners, else -1."""
    check_ring(ring)
    return sign(area_to_the_left(ring)[0])


def rounds(ring, point):
    """How often a ring goes round a point, None on the rim; both are known to be such."""
    count = 0
    for one, other in sides(ring):
        if on_side((one, other), point):
            return None
        # Counted are the sides that cross the ray from the point to the right, each with its lower
        # end and without its upper one, so that a corner on the ray counts just once.
        begins_above = order(one[1], point[1]) > 0
        ends_above = order(other[1], point[1]) > 0
        if ends_above and not begins_above and turned(one, other, point) > 0:
            count += 1
        if begins_above and not ends_above and turned(one, other, point) < 0:
            count -= 1
    return count


def place(ring, point):
    """Where a point lies to a ring: "in", "on" or "out"; both are known to be such."""
    count = rounds(ring, point)
    if count is None:
        return "on"
    return "in" if count else "out"


def wound(ring, point):
    """How often the ring goes round the point, to the left counted 1, to the right -1; None on the rim."""
    check_ring(ring)
    check_point(point)
    return rounds(ring, point)


def lies(ring, point):
    """Where the point lies to the ring: "in", "on" or "out"."""
    check_ring(ring)
    check_point(point)
    return place(ring, point)


def nearest_on_side(side, point):
    """The side's point that is nearest to a point."""
    one, other = side
    right = minus(other[0], one[0])
    up = minus(other[1], one[1])
    along = plus(times(minus(point[0], one[0]), right), times(minus(point[1], one[1]), up))
    share = over(along, squared_apart(one, other))
    if order(share, ZERO) <= 0:
        return one
    if order(share, ONE) >= 0:
        return other
    return part_of_way(one, other, share)


def comes_ahead(found, best):
    """Whether one (point, squared) is nearer than the best one, or as near and the lesser point."""
    return (order(found[1], best[1]) or point_order(found[0], best[0])) < 0


def nearest(ring, point):
    """(point, squared): the ring's point nearest to the point, and how far off it is, squared."""
    if lies(ring, point) != "out":
        return point, ZERO
    best = None
    for side in sides(ring):
        spot = nearest_on_side(side, point)
        found = (spot, squared_apart(spot, point))
        if best is None or comes_ahead(found, best):
            best = found
    return best
