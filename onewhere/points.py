"""Points, the turn that three of them make, and how far two are apart ([10], [11])."""

from onewhere.errors import NoPoint
from onewhere.exact import amount, is_fraction, minus, order, plus, sign, times


def is_point(thing):
    """Whether this is a tuple (x, y) of fractions."""
    return isinstance(thing, tuple) and len(thing) == 2 and is_fraction(thing[0]) and is_fraction(thing[1])


def check_point(thing):
    if not is_point(thing):
        raise NoPoint("this is no point: a tuple (x, y) of fractions in least terms")


def over_one_bottom(point):
    """The whole numbers (x, y, bottom) of a point with one bottom, above 0, for both axes."""
    (x_top, x_bottom), (y_top, y_bottom) = point
    return x_top * y_bottom, y_top * x_bottom, x_bottom * y_bottom


def turned(one, two, three):
    """The turn of three points that are known to be points.

    Only the sign is asked for, so whole numbers do: no fraction needs to be brought to least terms.
    """
    x, y, bottom = over_one_bottom(one)
    x_two, y_two, bottom_two = over_one_bottom(two)
    x_three, y_three, bottom_three = over_one_bottom(three)
    return sign(
        x * (y_two * bottom_three - y_three * bottom_two)
        - y * (x_two * bottom_three - x_three * bottom_two)
        + bottom * (x_two * y_three - x_three * y_two)
    )


def point_order(one, other):
    """1, 0 or -1, as one point comes behind, with or ahead of the other one: by x, then y."""
    return order(one[0], other[0]) or order(one[1], other[1])


def squared_apart(one, other):
    """How far two points that are known to be points are apart, squared."""
    right = minus(one[0], other[0])
    up = minus(one[1], other[1])
    return plus(times(right, right), times(up, up))


def amounts_apart(one, other):
    """How far two points are apart along each axis; NoPoint of what is none."""
    check_point(one)
    check_point(other)
    return amount(minus(one[0], other[0])), amount(minus(one[1], other[1]))


def turn(one, two, three):
    """1, -1 or 0, as going from one over two to three one turns to the left, to the right or neither."""
    check_point(one)
    check_point(two)
    check_point(three)
    return turned(one, two, three)


def squared(one, other):
    """How far two points are apart, squared."""
    check_point(one)
    check_point(other)
    return squared_apart(one, other)


def streetwise(one, other):
    """How far two points are apart, along both axes together."""
    right, up = amounts_apart(one, other)
    return plus(right, up)


def boxwise(one, other):
    """How far two points are apart, along the axis where it is more."""
    right, up = amounts_apart(one, other)
    return right if order(right, up) > 0 else up
