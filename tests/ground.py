"""Shapes by another way than the package's: Fractions, and one point out of each patch of ground."""

from fractions import Fraction

from tests.things import fr, xy


def plain(ring):
    """The corners of a ring as Fractions."""
    return [xy(corner) for corner in ring]


def sides_of(corners):
    return list(zip(corners, corners[1:] + corners[:1]))


def segments_meet(a, b, c, d):
    """Whether two segments of Fractions have a point in common, by solving for it; either may be one point."""
    if a == b:
        a, b, c, d = c, d, a, b
    ux, uy, vx, vy = b[0] - a[0], b[1] - a[1], d[0] - c[0], d[1] - c[1]
    wx, wy = c[0] - a[0], c[1] - a[1]
    cross = ux * vy - uy * vx
    if cross:
        s, t = (wx * vy - wy * vx) / cross, (wx * uy - wy * ux) / cross
        return 0 <= s <= 1 and 0 <= t <= 1
    if wx * uy - wy * ux:
        return False
    return max(min(a, b), min(c, d)) <= min(max(a, b), max(c, d))


def line_meets(a, b, c, d):
    """The point where two lines meet, as a list of none or one."""
    ux, uy, vx, vy = b[0] - a[0], b[1] - a[1], d[0] - c[0], d[1] - c[1]
    cross = ux * vy - uy * vx
    if not cross:
        return []
    s = Fraction((c[0] - a[0]) * vy - (c[1] - a[1]) * vx) / cross
    return [(a[0] + s * ux, a[1] + s * uy)]


def on_rim(corners, point):
    return any(segments_meet(a, b, point, point) for a, b in sides_of(corners))


def heights(corners, x):
    """Where the rim stands over an x at which there is no corner, rising."""
    found = []
    for (ax, ay), (bx, by) in sides_of(corners):
        if min(ax, bx) < x < max(ax, bx):
            found.append(ay + (by - ay) * Fraction(x - ax) / (bx - ax))
    return sorted(found)


def is_over(corners, point):
    """Whether a point that is not on the rim, nor over or beneath a corner, lies within."""
    return sum(height < point[1] for height in heights(corners, point[0])) % 2 == 1


def middles(numbers):
    rising = sorted(set(numbers))
    return [(low + high) / Fraction(2) for low, high in zip(rising, rising[1:])]


def patches(one, other):
    """A point out of each patch of ground into which the rims of both divide it, as far as either reaches."""
    rows = sides_of(one) + sides_of(other)
    xs = [x for x, _ in [*one, *other]]
    xs += [x for a, b in rows for c, d in rows for x, _ in line_meets(a, b, c, d)]
    low, high = min(x for x, _ in [*one, *other]), max(x for x, _ in [*one, *other])
    for x in middles(x for x in xs if low <= x <= high):
        for y in middles(heights(one, x) + heights(other, x)):
            yield x, y


def held_by_the_patches(ring, other):
    """[32] for rings of Fractions: a ring is its patches and their rims."""
    kinds = {(is_over(ring, point), is_over(other, point)) for point in patches(ring, other)}
    if (True, False) not in kinds:
        return "in" if (False, True) in kinds else "same"
    if (False, True) not in kinds:
        return "holds"
    if (True, True) in kinds:
        return "cross"
    meet = any(segments_meet(*side, *line) for side in sides_of(ring) for line in sides_of(other))
    return "touch" if meet else "apart"


def has(corners, point):
    """Whether a point lies in or on a ring, wherever it is: a little way to the right of it tells."""
    if on_rim(corners, point):
        return True
    x, y = point
    count = 0
    for (ax, ay), (bx, by) in sides_of(corners):
        if (ay <= y) != (by <= y) and ax + (bx - ax) * Fraction(y - ay) / (by - ay) > x:
            count += 1
    return count % 2 == 1


def told(point):
    return fr(point[0]), fr(point[1])


def square(code):
    """(x, y, side) of a code as Fractions, fourth by fourth."""
    x, y, side = Fraction(0), Fraction(0), Fraction(64)
    for figure in code:
        side /= 2
        x += side * (figure in "13")
        y += side * (figure in "23")
    return x, y, side
