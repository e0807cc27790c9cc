"""Points, the turn that three of them make, and how far two are apart ([10], [11])."""

from onewhere.errors import NoPoint, NotThere
from onewhere.exact import ZERO, amount, in_least_terms, is_fraction, is_tuple, minus, order, plus, sign, times

LAND_SIDE = 64


def is_point(thing):
    """Whether this is a tuple (x, y) of fractions."""
    return is_tuple(thing, 2, 2) and is_fraction(thing[0]) and is_fraction(thing[1])


def check_point(thing):
    if not is_point(thing):
        raise NoPoint("this is no point: a tuple (x, y) of fractions in least terms")


def check_points(one, other):
    check_point(one)
    check_point(other)


def in_land(point):
    """Whether a point is one of the land: x and y from 0 on and below its side."""
    return all(order(ZERO, along) <= 0 and order(along, (LAND_SIDE, 1)) < 0 for along in point)


def is_land_point(thing):
    return is_point(thing) and in_land(thing)


def check_land_point(thing):
    check_point(thing)
    if not in_land(thing):
        raise NotThere("this point is none of the land: x and y from 0 on and below 64")


def over_one_bottom(point):
    """The whole numbers (x, y, bottom) of a point with one bottom, above 0, for both axes."""
    (x_top, x_bottom), (y_top, y_bottom) = point
    return x_top * y_bottom, y_top * x_bottom, x_bottom * y_bottom


def point_in_least_terms(point):
    """The point of any tops and any bottoms but 0."""
    (x_top, x_bottom), (y_top, y_bottom) = point
    return in_least_terms(x_top, x_bottom), in_least_terms(y_top, y_bottom)


def turned(one, two, three):
    """The turn of three points that are known to be points.

    Only the sign is asked for, so whole numbers do: no fraction needs to be brought to least terms.
    """
    x, y, bottom = over_one_bottom(one)
    x_two, y_two, bottom_two = over_one_bottom(two)
    x_three, y_three, bottom_three = over_one_bottom(three)
    return sign(
        x * (y_two * bottom_three - y_three * bottom_two)
        - y * (x_two * bottom_three - x_three * bottom_two)
        + bottom * (x_two * y_three - x_three * y_two)
    )


def point_order(one, other):
    """1, 0 or -1, as one point comes behind, with or ahead of the other one: by x, then y."""
    return order(one[0], other[0]) or order(one[1], other[1])


def squared_apart(one, other):
    """How far two points that are known to be points are apart, squared."""
    right = minus(one[0], other[0])
    up = minus(one[1], other[1])
    return plus(times(right, right), times(up, up))


def part_of_way(begin, end, share):
    """The point after a share of the straight way from one point to another one."""
    x, y = begin
    right = times(share, minus(end[0], x))
    up = times(share, minus(end[1], y))
    return plus(x, right), plus(y, up)


def amounts_apart(one, other):
    """How far two points that are known to be points are apart along each axis."""
    return amount(minus(one[0], other[0])), amount(minus(one[1], other[1]))


def street_apart(one, other):
    """How far two points that are known to be points are apart, along both axes together."""
    right, up = amounts_apart(one, other)
    return plus(right, up)


def box_apart(one, other):
    """How far two points that are known to be points are apart, along the axis where it is more."""
    right, up = amounts_apart(one, other)
    return right if order(right, up) > 0 else up


def turn(one, two, three):
    """1, -1 or 0, as going from one over two to three one turns to the left, to the right or neither."""
    check_points(one, two)
    check_point(three)
    return turned(one, two, three)


def squared(one, other):
    """How far two points are apart, squared."""
    check_points(one, other)
    return squared_apart(one, other)


def streetwise(one, other):
    """How far two points are apart, along both axes together."""
    check_points(one, other)
    return street_apart(one, other)


def boxwise(one, other):
    """How far two points are apart, along the axis where it is more."""
    check_points(one, other)
    return box_apart(one, other)
