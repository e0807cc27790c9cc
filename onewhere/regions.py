"""Regions: whose the tiles of the land are, from day to day ([80], [81])."""

from onewhere.errors import NoMoves, NoRegion
from onewhere.exact import check_day, is_from_zero, is_tuple, is_word
from onewhere.points import LAND_SIDE, check_land_point
from onewhere.tiles import FIGURES, across, are_codes, column_and_row, put_together, tile_of

LAND = "land"
MOST_MOVES = 24
# Borders go along the sides of tiles of so many figures.
DEPTH = 4


def are_moved_codes(thing):
    """Whether these are codes, at least one, of at most four figures each."""
    return are_codes(thing) and len(thing) > 0 and all(len(code) <= DEPTH for code in thing)


def is_move(thing):
    """Whether this is (day, codes, region)."""
    if not is_tuple(thing, 3, 3):
        return False
    day, codes, region = thing
    return is_from_zero(day) and are_moved_codes(codes) and is_word(region)


def are_moves(thing):
    """Whether these are moves: at most twenty-four, their days not falling."""
    if not is_tuple(thing, 0, MOST_MOVES) or not all(is_move(part) for part in thing):
        return False
    return all(move[0] <= behind[0] for move, behind in zip(thing, thing[1:]))


def check_moves(thing):
    if not are_moves(thing):
        raise NoMoves("these are no moves: at most twenty-four of (day, codes, region), days not falling")


def check_region(thing):
    if not is_word(thing):
        raise NoRegion("this is no region's name: a text of one to eight small letters")


def check_moves_region_and_day(moves, region, day):
    check_moves(moves)
    check_region(region)
    check_day(day)


def past_of(moves, point):
    """(day, region) of each move that has a point of the land, in their order."""
    code = tile_of(point, DEPTH)
    return [(day, region) for day, codes, region in moves if any(code.startswith(begin) for begin in codes)]


def region_on(past, day):
    """The region on a day of a point with such a past."""
    found = LAND
    for since, region in past:
        if since <= day:
            found = region
    return found


def region_at(moves, point, day):
    """The region that has the point on the day."""
    check_moves(moves)
    check_land_point(point)
    check_day(day)
    return region_on(past_of(moves, point), day)


def small_tiles(code):
    """The codes of four figures of all tiles in a tile, rising."""
    if len(code) == DEPTH:
        return [code]
    return [part for figure in FIGURES for part in small_tiles(code + figure)]


def owners(moves, day):
    """The region of each tile of four figures on a day, by its code, rising."""
    found = {code: LAND for code in small_tiles("")}
    for since, codes, region in moves:
        if since <= day:
            found.update({part: region for code in codes for part in small_tiles(code)})
    return found


def tiles_of(moves, region, day):
    """The codes of four figures of a region on a day, rising; all are known to be such."""
    found = owners(moves, day)
    return [code for code in found if found[code] == region]


def ground_of(moves, region, day):
    """The merged codes of a region on a day; all are known to be such."""
    return put_together(tiles_of(moves, region, day))


def ground(moves, region, day):
    """The merged codes of the region on the day."""
    check_moves_region_and_day(moves, region, day)
    return ground_of(moves, region, day)


def tile_side():
    """How long the side of a tile of four figures is."""
    return LAND_SIDE // across(DEPTH)


def great(moves, region, day):
    """The area of the region on the day."""
    check_moves_region_and_day(moves, region, day)
    return len(tiles_of(moves, region, day)) * tile_side() * tile_side(), 1


def regions(moves, day):
    """The regions that have ground on the day, rising."""
    check_moves(moves)
    check_day(day)
    found = owners(moves, day)
    return sorted({found[code] for code in found})


def changed(moves, day, other_day):
    """(code, from, to), rising, of what is of another region on the other day than on the day."""
    check_moves(moves)
    check_day(day)
    check_day(other_day)
    here = owners(moves, day)
    there = owners(moves, other_day)
    hands = {}
    for code in here:
        if here[code] != there[code]:
            hands.setdefault((here[code], there[code]), []).append(code)
    return sorted([(code, begin, end) for begin, end in hands for code in put_together(hands[begin, end])])


def sides_of_tile(code):
    """The four sides of a tile of four figures, the lesser corner of each first."""
    column, row = column_and_row(code)
    side = tile_side()
    left, low = column * side, row * side
    right, high = left + side, low + side
    flat = [((left, low), (right, low)), ((left, high), (right, high))]
    return flat + [((left, low), (left, high)), ((right, low), (right, high))]


def rim(moves, region, day):
    """The sides, rising, between a tile of the region and one that isn't, or the land's end, on the day."""
    check_moves_region_and_day(moves, region, day)
    counts = {}
    for code in tiles_of(moves, region, day):
        for side in sides_of_tile(code):
            counts[side] = counts.get(side, 0) + 1
    # A side between two tiles of the region is there twice.
    return sorted([side for side in counts if counts[side] == 1])
