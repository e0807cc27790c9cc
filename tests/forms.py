"""Atlases and forms by chance, and what is told of forms by another way than the package's."""

from fractions import Fraction

from onewhere.frames import told_in
from onewhere.regions import regions
from onewhere.tiles import tile_of
from onewhere.webs import long_of
from tests.days import days_of, fewest_codes, found_by_the_words, map_of, numbers_by_the_words, numbers_of, some_rows
from tests.ground import segments_meet, square
from tests.roads import nearest_by_the_words, some_web, streets, walked, way_along
from tests.things import fr, pt, val, way

FRAMES = (
    ("far", "near", way(1, "1/2", 0, 1, -3, "2/3")),
    ("mirror", "ground", way(-1, 0, 0, 1, 8, 0)),
    ("near", "ground", way(2, 0, 0, 2, 3, 0)),
)
KINDS = ("spot", "address", "region")


def ground_of_frame(frames, name, point):
    """A point as told in a frame, on the ground, by Fractions, map by map."""
    steps = {frame: (other, worth) for frame, other, worth in frames}
    x, y = point
    while name != "ground":
        name, worth = steps[name]
        a, b, c, d, e, f = map(val, worth)
        x, y = a * x + b * y + e, c * x + d * y + f
    return x, y


def sides_along(web, number, low, high):
    """The straight pieces of a road from low to high, one of them without length where they are alike."""
    corners, gone = [walked(web, number, low)], Fraction(0)
    along = way_along(web, number)
    for begin, end in zip(along, along[1:]):
        gone += streets(begin, end)
        if low < gone < high:
            corners.append(end)
    corners.append(walked(web, number, high))
    return list(zip(corners, corners[1:]))


def ground_of_form(atlas, day, form):
    """("sides", pairs of points) or ("squares", (x, y, side) of each): all the ground that a form means."""
    frames, web, rows, moves = atlas
    kind, *rest = form
    if kind == "point":
        point = ground_of_frame(frames, rest[0], (val(rest[1]), val(rest[2])))
        return "sides", [(point, point)]
    if kind == "spot":
        return "sides", sides_along(web, rest[0], val(rest[1]), val(rest[1]))
    if kind == "address":
        return "sides", sides_along(web, *found_by_the_words(web, rows, *rest, day))
    codes = rest if kind == "tile" else region_codes(moves, rest[0], day)
    return "squares", [square(code) for code in codes]


def region_codes(moves, region, day):
    told = map_of(moves, day)
    return fewest_codes({cell for cell in told if told[cell] == region})


def anchor_by_the_words(atlas, day, form):
    """[100]: the anchor as Fractions."""
    frames, web, rows, moves = atlas
    kind, *rest = form
    if kind == "spot":
        return walked(web, rest[0], val(rest[1]))
    if kind == "address":
        road, low, high = found_by_the_words(web, rows, *rest, day)
        return walked(web, road, (low + high) / 2)
    kind, found = ground_of_form(atlas, day, form)
    if kind == "sides":
        return found[0][0]
    x, y, side = found[0]
    return x + side / 2, y + side / 2


def in_square(corner, point):
    x, y, side = corner
    return x <= point[0] < x + side and y <= point[1] < y + side


def ground_has(ground, point):
    """Whether a lot of ground has a point."""
    kind, found = ground
    if kind == "sides":
        return any(segments_meet(a, b, point, point) for a, b in found)
    return any(in_square(corner, point) for corner in found)


def side_meets_square(side, corner):
    """Whether a piece has a point of a square without its right and upper sides, by how far along it that is."""
    (low, low_shut), (high, high_shut) = (Fraction(0), True), (Fraction(1), True)
    for at in (0, 1):
        begin, step = side[0][at], side[1][at] - side[0][at]
        near, far = corner[at] - begin, corner[at] + corner[2] - begin
        if step == 0:
            if not near <= 0 < far:
                return False
            continue
        ends = (near / step, True), (far / step, False)
        lower, upper = ends if step > 0 else ends[::-1]
        # Of two ends at one place the one that is left out counts.
        low, low_shut = max((low, not low_shut), (lower[0], not lower[1]))
        low_shut = not low_shut
        high, high_shut = min((high, high_shut), upper)
    return low < high or (low == high and low_shut and high_shut)


def squares_meet(one, other):
    return all(max(one[at], other[at]) < min(one[at] + one[2], other[at] + other[2]) for at in (0, 1))


def grounds_meet(one, other):
    """Whether two lots of ground have a point in common."""
    if one[0] == "squares" and other[0] == "sides":
        one, other = other, one
    for part in one[1]:
        for behind in other[1]:
            if one[0] == "squares":
                met = squares_meet(part, behind)
            elif other[0] == "squares":
                met = side_meets_square(part, behind)
            else:
                met = segments_meet(*part, *behind)
            if met:
                return True
    return False


def held_by_the_words(atlas, day, form, other):
    """[102]."""
    one, two = (ground_of_form(atlas, day, thing) for thing in (form, other))
    if not grounds_meet(one, two):
        return "two"
    return "one" if all(thing[0] in ("point", "spot") for thing in (form, other)) else "open"


def led_by_the_words(atlas, day, form, kind):
    """[101]: the form, or None where it is refused with NotThere; points are told by the package's own frames."""
    frames, web, rows, moves = atlas
    x, y = anchor_by_the_words(atlas, day, form)
    if kind in ("spot", "address"):
        near = nearest_by_the_words(web, (x, y))
        if near is None:
            return None
        if kind == "spot":
            return "spot", near[1], fr(near[2])
        found = numbers_by_the_words(web, rows, near[1], near[2], day)
        return ("address", *found[0]) if found else None
    if kind[0] == "point":
        return ("point", kind[1], *told_in(frames, "ground", kind[1], pt(x, y)))
    if not (0 <= x < 64 and 0 <= y < 64):
        return None
    if kind == "region":
        return "region", map_of(moves, day)[int(x // 4), int(y // 4)]
    code, corner = "", square("")
    while len(code) < kind[1]:
        code, corner = next((code + figure, square(code + figure)) for figure in "0123"
                            if in_square(square(code + figure), (x, y)))
    return "tile", code


def boxwise_apart(one, other):
    return max(abs(one[0] - other[0]), abs(one[1] - other[1]))


def some_near_moves(chance):
    """Moves by chance of tiles near to the land's begin, where the roads are."""
    moves, day = [], 0
    for _ in range(chance.randint(0, 6)):
        day += chance.choice((0, 0, 1, 3))
        codes = tuple(sorted(chance.sample(("0000", "0001", "0002", "0003", "001", "002", "003"), chance.randint(1, 4))))
        codes = chance.choice((codes, codes, ("",), ("00",), ("0", "1")))
        moves.append((day, codes, chance.choice(("east", "land", "north", "west"))))
    return tuple(moves)


def some_atlas(chance, below=1):
    web = some_web(chance, span=chance.choice((5, 8, 10)), below=below)
    return chance.choice((FRAMES, FRAMES[1:])), web, some_rows(chance, web), some_near_moves(chance)


def some_ground_point(chance, web):
    """A point that often lies on a road, at a crossing, at a tile's side, or beyond the land."""
    if web[1] and chance.random() < 0.5:
        road = chance.randrange(len(web[1]))
        return pt(*walked(web, road, val(long_of(web, road)) * Fraction(chance.randint(0, 12), 12)))
    below = chance.choice((1, 1, 2, 8, 3))
    return pt(*(Fraction(chance.randint(-below, 9 * below), below) for _ in range(2)))


def some_form(chance, atlas, day):
    """A form of the atlas on the day."""
    frames, web, rows, moves = atlas
    kind = chance.choice(("point", "tile", "spot", "spot", "address", "address", "region"))
    if kind == "spot" and web[1]:
        road = chance.randrange(len(web[1]))
        return "spot", road, fr(val(long_of(web, road)) * Fraction(chance.randint(0, 12), 12))
    there = [row for row in rows if day in days_of(row)]
    if kind == "address" and there:
        row = chance.choice(there)
        return "address", row[0], chance.choice(numbers_of(row))
    if kind == "region":
        return "region", chance.choice(regions(moves, day))
    if kind == "tile":
        point = pt(*(Fraction(chance.randint(0, 80), 8) for _ in range(2)))
        return "tile", tile_of(point, chance.choice((0, 1, 4, 5, 6, 6, 7, 8, 9)))
    frame = chance.choice(["ground"] + [name for name, _, _ in frames])
    return ("point", frame, *told_in(frames, "ground", frame, some_ground_point(chance, web)))


def some_kind(chance, atlas):
    names = ["ground"] + [name for name, _, _ in atlas[0]]
    return chance.choice((*KINDS, ("tile", chance.randint(0, 9)), ("point", chance.choice(names))))
