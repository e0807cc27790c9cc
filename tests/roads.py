"""Roads and routes by another way than the package's: Fractions, and all routes one by one."""

import random
from fractions import Fraction

from onewhere.webs import long_of
from tests.things import fr, pt, val, xy


def way_along(web, number):
    one, other, middle, _ = web[1][number]
    return [xy(point) for point in (web[0][one], *middle, web[0][other])]


def streets(one, other):
    return abs(one[0] - other[0]) + abs(one[1] - other[1])


def walked(web, number, far):
    """The point so far along a road, by Fractions."""
    for begin, end in zip(way_along(web, number), way_along(web, number)[1:]):
        piece = streets(begin, end)
        if far <= piece:
            return tuple(a + (b - a) * far / piece for a, b in zip(begin, end))
        far -= piece
    raise AssertionError("beyond the road")


def nearest_by_the_words(web, point):
    """The least (off, road, far) by the foot of the point on each piece, or its ends."""
    found = []
    for number in range(len(web[1])):
        gone = Fraction(0)
        for (ax, ay), (bx, by) in zip(way_along(web, number), way_along(web, number)[1:]):
            share = ((point[0] - ax) * (bx - ax) + (point[1] - ay) * (by - ay)) / ((bx - ax) ** 2 + (by - ay) ** 2)
            for part in [Fraction(0), Fraction(1)] + [share] * (0 < share < 1):
                x, y = ax + part * (bx - ax), ay + part * (by - ay)
                off = (x - point[0]) ** 2 + (y - point[1]) ** 2
                found.append((off, number, gone + part * streets((ax, ay), (bx, by))))
            gone += streets((ax, ay), (bx, by))
    return min(found, default=None)


def some_web(chance, span=8, below=1):
    """A web by chance, on so few points that much is alike."""
    def point():
        return pt(*(Fraction(chance.randrange(span * below), below) for _ in range(2)))

    crossings = tuple(dict.fromkeys(point() for _ in range(chance.randint(2, 8))))
    roads = []
    if len(crossings) > 1:
        for _ in range(chance.randint(0, 14)):
            one, other = chance.sample(range(len(crossings)), 2)
            made = (one, other, tuple(point() for _ in range(chance.randint(0, 4))), chance.choice((1, 2)))
            along = (crossings[one], *made[2], crossings[other])
            if all(a != b for a, b in zip(along, along[1:])):
                roads.append(made)
    return crossings, tuple(roads)


def spot(number, far):
    return (number, fr(far))


def leg(number, begin, end):
    return (number, fr(begin), fr(end))


def place_of(web, number, far):
    """The crossing of a spot, else the spot itself."""
    one, other, _, _ = web[1][number]
    if far == 0:
        return one
    return other if far == val(long_of(web, number)) else (number, far)


def is_route_by_the_words(web, start, goal, legs, closed=()):
    """[60] for legs that are (number of a road, fraction, fraction)."""
    places = [place_of(web, start[0], val(start[1]))]
    for at, (number, begin, end) in enumerate(legs):
        begin, end, long = val(begin), val(end), val(long_of(web, number))
        if number in closed or begin == end or not (0 <= begin <= long and 0 <= end <= long):
            return False
        if web[1][number][3] == 1 and begin > end:
            return False
        here = place_of(web, number, begin)
        if here != places[-1]:
            return False
        if at and (type(here) is tuple or legs[at - 1][0] == number):
            return False
        places.append(place_of(web, number, end))
    return places[-1] == place_of(web, goal[0], val(goal[1]))


def long_of_legs(legs):
    return sum((abs(val(end) - val(begin)) for _, begin, end in legs), Fraction(0))


def all_routes(web, start, goal, closed=()):
    """All routes that come to no crossing twice, each leg picked out of all that might do."""
    goal_place = place_of(web, goal[0], val(goal[1]))

    def on_from(place, seen, legs):
        if place == goal_place:
            yield legs
            return
        for number, (one, other, _, ways) in enumerate(web[1]):
            if number in closed or (legs and legs[-1][0] == number):
                continue
            long = val(long_of(web, number))
            begins = [(Fraction(0), one), (long, other)]
            ends = list(begins)
            if type(place) is tuple and place[0] == number:
                begins.append((place[1], place))
            if goal[0] == number:
                ends.append((val(goal[1]), goal_place))
            for begin, here in begins:
                for end, there in ends:
                    if here != place or begin == end or (ways == 1 and begin > end) or there in seen:
                        continue
                    yield from on_from(there, seen | {there}, legs + (leg(number, begin, end),))

    first = place_of(web, start[0], val(start[1]))
    return on_from(first, {first}, ())


def rank(legs):
    return long_of_legs(legs), len(legs), [(number, val(begin), val(end)) for number, begin, end in legs]


def some_spot(chance, web):
    number = chance.randrange(len(web[1]))
    return spot(number, val(long_of(web, number)) * Fraction(chance.choice((0, 0, 1, 2, 3, 4, 4)), 4))


def some_closed(chance, web):
    return tuple(number for number in range(len(web[1])) if chance.random() < 0.15)


def questions(seed, many):
    """Webs with two spots and closed roads, by chance."""
    chance = random.Random(seed)
    while many:
        web = some_web(chance, span=chance.choice((3, 5, 8)))
        if web[1]:
            many -= 1
            yield web, some_spot(chance, web), some_spot(chance, web), some_closed(chance, web)
