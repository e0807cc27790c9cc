"""Webs of roads: how long a road is, the point of a spot, and the spot nearest to a point ([50])."""

from onewhere.errors import NoRoad, NoSpot, NoWeb
from onewhere.exact import ZERO, is_fraction, is_number, is_tuple, is_whole, minus, order, over, plus
from onewhere.points import check_point, is_land_point, part_of_way, squared_apart, street_apart
from onewhere.rings import nearest_on_side

MOST_CROSSINGS = 10
MOST_ROADS = 14
MOST_CORNERS = 4


def are_land_points(thing, fewest, most):
    return is_tuple(thing, fewest, most) and all(is_land_point(part) for part in thing)


def are_crossings(thing):
    """Whether these are one to ten unlike points of the land."""
    return are_land_points(thing, 1, MOST_CROSSINGS) and len(set(thing)) == len(thing)


def pairs(points):
    """Each two points behind one another."""
    return list(zip(points, points[1:]))


def points_along(crossings, road):
    """The points from a road's one crossing over its middle to the other one."""
    one, other, middle, ways = road
    return (crossings[one], *middle, crossings[other])


def is_road(crossings, thing):
    """Whether this is a road between two of the crossings."""
    if not is_tuple(thing, 4, 4):
        return False
    one, other, middle, ways = thing
    if not is_number(one, len(crossings)) or not is_number(other, len(crossings)) or one == other:
        return False
    if not is_whole(ways) or ways not in (1, 2) or not are_land_points(middle, 0, MOST_CORNERS):
        return False
    return all(begin != end for begin, end in pairs(points_along(crossings, thing)))


def is_web(thing):
    """Whether this is (crossings, roads)."""
    if not is_tuple(thing, 2, 2):
        return False
    crossings, roads = thing
    if not are_crossings(crossings) or not is_tuple(roads, 0, MOST_ROADS):
        return False
    return all(is_road(crossings, road) for road in roads)


def check_web(thing):
    if not is_web(thing):
        raise NoWeb("this is no web: (crossings, roads), the roads between unlike crossings of the land")


def check_road(web, thing):
    if not is_number(thing, len(web[1])):
        raise NoRoad("this is no number of a road of the web")


def pieces(web, road):
    """The straight pieces of a road, each a pair of points, from its one crossing on."""
    return pairs(points_along(web[0], web[1][road]))


def road_long(web, road):
    """How long a road is; it is known to be one."""
    whole = ZERO
    for begin, end in pieces(web, road):
        whole = plus(whole, street_apart(begin, end))
    return whole


def is_far(web, road, thing):
    """Whether this is how far one may be along a road: a fraction from 0 to its long."""
    return is_fraction(thing) and order(ZERO, thing) <= 0 and order(thing, road_long(web, road)) <= 0


def is_spot(web, thing):
    """Whether this is (road, far)."""
    return is_tuple(thing, 2, 2) and is_number(thing[0], len(web[1])) and is_far(web, thing[0], thing[1])


def check_spot(web, thing):
    if not is_spot(web, thing):
        raise NoSpot("this is no spot of the web: (road, far), far from 0 to the road's long")


def long_of(web, road):
    """How long the road is, streetwise, along its pieces."""
    check_web(web)
    check_road(web, road)
    return road_long(web, road)


def spot_point(web, spot):
    """The point of a spot that is known to be one."""
    road, left = spot
    for begin, end in pieces(web, road):
        piece = street_apart(begin, end)
        # No spot lies beyond the last piece, so the way always ends here.
        if order(left, piece) <= 0:
            break
        left = minus(left, piece)
    return part_of_way(begin, end, over(left, piece))


def road_part(web, road, low, high):
    """The straight pieces of a road from low to high; where these are alike, one piece without length."""
    points = [spot_point(web, (road, low))]
    gone = ZERO
    for begin, end in pieces(web, road):
        gone = plus(gone, street_apart(begin, end))
        if order(low, gone) < 0 and order(gone, high) < 0:
            points.append(end)
    points.append(spot_point(web, (road, high)))
    return pairs(points)


def point_at(web, spot):
    """The point of the spot."""
    check_web(web)
    check_spot(web, spot)
    return spot_point(web, spot)


def nearest_spots(web, point):
    """(off, road, far) of the nearest spot of each piece of each road, rising by road and far."""
    found = []
    for road in range(len(web[1])):
        gone = ZERO
        for begin, end in pieces(web, road):
            near = nearest_on_side((begin, end), point)
            found.append((squared_apart(near, point), road, plus(gone, street_apart(begin, near))))
            gone = plus(gone, street_apart(begin, end))
    return found


def least_off(web, point):
    """(off, road, far) of the spot nearest to a point, None where there are no roads; both are known to be such."""
    best = None
    for found in nearest_spots(web, point):
        # Of several as near the first one has the least road and far.
        if best is None or order(found[0], best[0]) < 0:
            best = found
    return best


def nearest_spot(web, point):
    """(off, road, far) of the spot that is nearest to the point, off squared; None where there are no roads."""
    check_web(web)
    check_point(point)
    return least_off(web, point)
