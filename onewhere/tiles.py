"""Square tiles of the land by their codes, and how they cover a ring ([40], [41], [42])."""

from onewhere.errors import NoDepth, NoTile, NoTiles
from onewhere.exact import in_least_terms, is_number, is_rising, is_tuple, order, plus
from onewhere.points import LAND_SIDE, check_land_point, point_in_least_terms
from onewhere.rings import check_ring, place, sides
from onewhere.sayings import cuts, half_way, middles

FIGURES = "0123"
DEEPEST = 9
DEEPEST_COVER = 4
MOST_CODES = 1024


def is_code(thing):
    """Whether this is a text of none to nine of the figures."""
    return isinstance(thing, str) and len(thing) <= DEEPEST and all(figure in FIGURES for figure in thing)


def check_code(thing):
    if not is_code(thing):
        raise NoTile("this is no tile's code: a text of none to nine of the figures 0 to 3")


def check_depth(thing, deepest):
    if not is_number(thing, deepest + 1):
        raise NoDepth("this is no depth: a whole number from 0 on, as great as may be asked for here")


def across(depth):
    """How many tiles of a depth stand side by side in the land."""
    return 1 << depth


def column_and_row(code):
    """How many tiles of the same depth stand to the left of a tile, and below it."""
    column = row = 0
    for figure in code:
        up, right = divmod(int(figure), 2)
        column = 2 * column + right
        row = 2 * row + up
    return column, row


def code_at(column, row, depth):
    """The code of the tile that stands there among those of its depth."""
    code = ""
    for step in range(depth):
        row, up = divmod(row, 2)
        column, right = divmod(column, 2)
        code = FIGURES[2 * up + right] + code
    return code


def box_of(code):
    """(x, y, side) of a code that is known to be one."""
    column, row = column_and_row(code)
    many = across(len(code))
    return tuple([in_least_terms(tiles * LAND_SIDE, many) for tiles in (column, row, 1)])


def box(code):
    """(x, y, side) of the tile: its least x and y, and its side."""
    check_code(code)
    return box_of(code)


def tiles_beneath(along, depth):
    """How many whole tiles of a depth lie beneath an x or y of the land."""
    return along[0] * across(depth) // (along[1] * LAND_SIDE)


def tile_of(point, depth):
    """The code, of as many figures, of the tile that has the point."""
    check_land_point(point)
    check_depth(depth, DEEPEST)
    return code_at(tiles_beneath(point[0], depth), tiles_beneath(point[1], depth), depth)


def neighbours(code):
    """The codes, rising, of the tiles of the same depth about the tile."""
    check_code(code)
    column, row = column_and_row(code)
    depth = len(code)
    columns = [at for at in (column - 1, column, column + 1) if is_number(at, across(depth))]
    rows = [at for at in (row - 1, row, row + 1) if is_number(at, across(depth))]
    codes = [code_at(right, up, depth) for right in columns for up in rows]
    return sorted([other for other in codes if other != code])


def are_codes(thing):
    """Whether these are codes: a rising tuple, no one the begin of another one."""
    if not is_tuple(thing, 0, MOST_CODES) or not all(is_code(part) for part in thing):
        return False
    # What begins like a code stands right behind it, so each one is held against the next one alone.
    return is_rising(thing) and not any(high.startswith(low) for low, high in zip(thing, thing[1:]))


def check_codes(thing):
    if not are_codes(thing):
        raise NoTiles("these are no codes: a rising tuple of at most 1,024, no one the begin of another one")


def put_together(codes):
    """The fewest codes that have the same points as these, which are known to be such, but for their number."""
    rows = []
    for code in codes:
        rows.append(code)
        # The last fourth of a tile may make it whole, and that one the next greater one.
        while rows[-4:] == [rows[-1][:-1] + figure for figure in FIGURES]:
            rows[-4:] = [rows[-1][:-1]]
    return tuple(rows)


def merged(codes):
    """The fewest codes that have the same points."""
    check_codes(codes)
    return put_together(codes)


def begins(code):
    """The codes of all tiles that hold a tile, from the land on to itself."""
    return [code[:many] for many in range(len(code) + 1)]


def lies_within(code, codes):
    """Whether a tile lies in one of the tiles of a dict of codes."""
    return any(begin in codes for begin in begins(code))


def keyed(codes):
    """A dict of codes, in which one is found at once."""
    return {code: True for code in codes}


def common(codes, other):
    """The codes, merged, that have the points of both."""
    check_codes(codes)
    check_codes(other)
    one = keyed(codes)
    two = keyed(other)
    inner = [code for code in codes if lies_within(code, two)]
    # One that is in both is there already.
    inner += [code for code in other if code not in one and lies_within(code, one)]
    return put_together(sorted(inner))


def left_over(code, taken, split):
    """The codes of what is left of a tile; split are the tiles of which but a part may be taken."""
    if code in taken:
        return []
    if code not in split:
        return [code]
    return [part for figure in FIGURES for part in left_over(code + figure, taken, split)]


def without(codes, other):
    """The codes, merged, that have the points of the first ones alone."""
    check_codes(codes)
    check_codes(other)
    taken = keyed(other)
    split = {begin: True for code in other for begin in begins(code)}
    kept = [code for code in codes if not lies_within(code, taken)]
    return put_together([part for code in kept for part in left_over(code, taken, split)])


def corners_of(code):
    """The least and the greatest corner of a tile."""
    x, y, side = box_of(code)
    return (x, y), (plus(x, side), plus(y, side))


def middle_of_tile(code):
    """The middle of a tile, in least terms."""
    low, high = corners_of(code)
    return point_in_least_terms(half_way(low, high))


def walls(low, high):
    """The four sides of a tile, by its least and its greatest corner."""
    return sides((low, (high[0], low[1]), high, (low[0], high[1])))


def is_of_tile(low, high, point):
    """Whether a tile has a point: its left and lower sides are its own, the others not."""
    return all(order(low[at], point[at]) <= 0 and order(point[at], high[at]) < 0 for at in (0, 1))


def is_inside_tile(low, high, point):
    """Whether a point lies in a tile and on none of its sides."""
    return all(order(low[at], point[at]) < 0 and order(point[at], high[at]) < 0 for at in (0, 1))


def marks(rows, low, high):
    """Points of some sides, of which one is a tile's, or inside it, wherever any point of them is."""
    lines = walls(low, high)
    found = []
    for side in rows:
        points = cuts(side, lines)
        found += points + middles(points)
    return found


def tile_point(code, rows):
    """Some point of some sides, in least terms, that a tile has; None where it has none."""
    low, high = corners_of(code)
    inside = [point for point in marks(rows, low, high) if is_of_tile(low, high, point)]
    return point_in_least_terms(inside[0]) if inside else None


def is_met(ring, code):
    """Whether some point of a tile lies in or on a ring."""
    low, high = corners_of(code)
    # Where the rim has no point of the tile, all of it lies where its least corner does.
    return place(ring, low) != "out" or any(is_of_tile(low, high, point) for point in marks(sides(ring), low, high))


def is_within(ring, code):
    """Whether all points of a tile lie in or on a ring."""
    low, high = corners_of(code)
    middle = half_way(low, high)
    rim = marks(sides(ring), low, high)
    # The rim has ground that is out right beside it, so it goes through no such tile.
    return place(ring, middle) == "in" and not any(is_inside_tile(low, high, point) for point in rim)


def cover(ring, depth):
    """(within, met): the codes of the tiles of a depth that lie all in or on the ring, and of those that meet it."""
    check_ring(ring)
    check_depth(depth, DEEPEST_COVER)
    met = [""] if is_met(ring, "") else []
    for step in range(depth):
        met = [code + figure for code in met for figure in FIGURES if is_met(ring, code + figure)]
    within = [code for code in met if is_within(ring, code)]
    return tuple(within), tuple(met)
