"""Routes on the roads of a web: the least ones, their prices, and their turns ([60], [61])."""

from onewhere.errors import NoClosed
from onewhere.exact import ZERO, amount, is_number, is_rising, is_tuple, minus, order, plus, sign
from onewhere.points import turned
from onewhere.rings import is_between
from onewhere.webs import check_spot, check_web, is_far, pieces, road_long

# Ways are tuples (long, legs).
STAY = ((0, 1), ())


def check_closed(web, thing):
    are_roads = isinstance(thing, tuple) and all(is_number(part, len(web[1])) for part in thing)
    if not are_roads or not is_rising(thing):
        raise NoClosed("these are no closed roads: a rising tuple of numbers of roads of the web")


def check_web_and_spots(web, closed, spots):
    check_web(web)
    check_closed(web, closed)
    for spot in spots:
        check_spot(web, spot)


def crossing_at(web, spot):
    """The number of the crossing where a spot lies, None where it lies at none."""
    road, far = spot
    one, other, middle, ways = web[1][road]
    if far == ZERO:
        return one
    return other if far == road_long(web, road) else None


def same_place(web, spot, other):
    """Whether two spots are one, or lie at one crossing."""
    here = crossing_at(web, spot)
    return spot == other or (here is not None and here == crossing_at(web, other))


def begin_of(leg):
    road, begin, end = leg
    return road, begin


def end_of(leg):
    road, begin, end = leg
    return road, end


def is_free(web, closed, leg):
    """Whether a leg leads somewhere, on no closed road, and not against a road of one way."""
    road, begin, end = leg
    one, other, middle, ways = web[1][road]
    back = order(begin, end)
    return road not in closed and (back < 0 or (back > 0 and ways == 2))


def gone_on(way, leg):
    """A way with a leg more."""
    long, legs = way
    road, begin, end = leg
    return plus(long, amount(minus(end, begin))), legs + (leg,)


def leg_order(one, other):
    """1, 0 or -1, as one leg is greater than, like or less than the other one."""
    return sign(one[0] - other[0]) or order(one[1], other[1]) or order(one[2], other[2])


def way_order(one, other):
    """-1 where one way is told ahead of the other one: by its long, then how many legs, then the legs."""
    found = order(one[0], other[0]) or sign(len(one[1]) - len(other[1]))
    for leg, other_leg in zip(one[1], other[1]):
        found = found or leg_order(leg, other_leg)
    return found


def better(way, best):
    """The better one of a way and the best one so far, which may be None."""
    return way if best is None or way_order(way, best) < 0 else best


def whole_legs(web, closed):
    """(crossing, crossing, leg) of each leg along a whole road that is free."""
    found = []
    for road in range(len(web[1])):
        one, other, middle, ways = web[1][road]
        long = road_long(web, road)
        found.append((one, other, (road, ZERO, long)))
        found.append((other, one, (road, long, ZERO)))
    return [(begin, end, leg) for begin, end, leg in found if is_free(web, closed, leg)]


def first_ways(web, closed, start):
    """For each crossing the way there without another crossing on it, None where there is none."""
    found = [None for crossing in web[0]]
    here = crossing_at(web, start)
    if here is not None:
        found[here] = STAY
        return found
    road, far = start
    for leg in ((road, far, ZERO), (road, far, road_long(web, road))):
        if is_free(web, closed, leg):
            found[crossing_at(web, end_of(leg))] = gone_on(STAY, leg)
    return found


def best_ways(web, closed, start):
    """For each crossing the best way there, None where there is none.

    None of these has two legs of one road behind one another: there is always a lesser one without them.
    """
    best = first_ways(web, closed, start)
    legs = whole_legs(web, closed)
    # A best way comes to no crossing twice, so it is found in as many rounds as there are crossings.
    for step in range(len(web[0])):
        for begin, end, leg in legs:
            if best[begin] is not None:
                best[end] = better(gone_on(best[begin], leg), best[end])
    return best


def last_legs(web, start, goal):
    """(crossing, leg) of each leg that may be the last one to a goal between two crossings.

    The crossing is None of the leg from the start itself.
    """
    road, far = goal
    one, other, middle, ways = web[1][road]
    found = [(one, (road, ZERO, far)), (other, (road, road_long(web, road), far))]
    return found + [(None, (road, start[1], far))] if start[0] == road else found


def best_way(web, closed, start, goal):
    """The best way from a spot to a spot, None where there is none."""
    if start == goal:
        return STAY
    to_crossings = best_ways(web, closed, start)
    there = crossing_at(web, goal)
    if there is not None:
        return to_crossings[there]
    best = None
    for crossing, leg in last_legs(web, start, goal):
        way = STAY if crossing is None else to_crossings[crossing]
        if way is not None and is_free(web, closed, leg):
            best = better(gone_on(way, leg), best)
    return best


def least(web, start, goal, *, closed=()):
    """The least long of a route from start to goal, None where there is none."""
    check_web_and_spots(web, closed, (start, goal))
    way = best_way(web, closed, start, goal)
    return None if way is None else way[0]


def route(web, start, goal, *, closed=()):
    """The route of the least long, of several the one with the fewest legs, of these the least."""
    check_web_and_spots(web, closed, (start, goal))
    way = best_way(web, closed, start, goal)
    return None if way is None else way[1]


def prices(web, start, *, closed=()):
    """For each crossing the least long of a route from start to it, None where there is none."""
    check_web_and_spots(web, closed, (start,))
    return tuple([None if way is None else way[0] for way in best_ways(web, closed, start)])


def is_leg(web, closed, thing):
    """Whether this is (road, from, to), and may be gone."""
    if not is_tuple(thing, 3, 3) or not is_number(thing[0], len(web[1])):
        return False
    road, begin, end = thing
    return is_far(web, road, begin) and is_far(web, road, end) and is_free(web, closed, thing)


def follows(web, leg, behind):
    """Whether a leg begins where the one ahead ends, at a crossing, on another road."""
    return leg[0] != behind[0] and same_place(web, end_of(leg), begin_of(behind))


def is_way(web, closed, start, goal, thing):
    """Whether this is a route; all but the thing is known to be such."""
    if not isinstance(thing, tuple) or not all(is_leg(web, closed, part) for part in thing):
        return False
    if not thing:
        return same_place(web, start, goal)
    if not same_place(web, start, begin_of(thing[0])) or not same_place(web, end_of(thing[-1]), goal):
        return False
    return all(follows(web, leg, behind) for leg, behind in zip(thing, thing[1:]))


def is_route(web, start, goal, thing, *, closed=()):
    """Whether this is a route from start to goal."""
    check_web_and_spots(web, closed, (start, goal))
    return is_way(web, closed, start, goal, thing)


def next_point(web, spot):
    """The point to which the piece at a crossing leads that has this spot of it there."""
    road, far = spot
    along = pieces(web, road)
    return along[0][1] if far == ZERO else along[-1][0]


def deed_between(web, leg, behind):
    """What is done at the crossing between two legs: "left", "right", "on" or "back"."""
    before = next_point(web, end_of(leg))
    after = next_point(web, begin_of(behind))
    crossing = web[0][crossing_at(web, end_of(leg))]
    way = turned(before, crossing, after)
    if way == 0:
        return "on" if is_between(before, after, crossing) else "back"
    return "left" if way > 0 else "right"


def turns(web, start, goal, thing, *, closed=()):
    """What is done between the legs of a route, None where it is none."""
    check_web_and_spots(web, closed, (start, goal))
    if not is_way(web, closed, start, goal, thing):
        return None
    return tuple([deed_between(web, leg, behind) for leg, behind in zip(thing, thing[1:])])
