"""Rows, moves and zones by chance, and what is told of them by another way than the package's."""

from fractions import Fraction

from onewhere.webs import long_of
from tests.things import val

STREETS = ("ash", "elm", "oak")
REGIONS = ("east", "land", "north", "west")


def numbers_of(row):
    """The numbers of a row, one by one."""
    _, _, first, last, step, _, _ = row
    return list(range(first, last + 1, step))


def days_of(row):
    return range(row[5], row[6])


def rows_clash(row, other):
    """Whether two rows give a street a number twice, day by day and number by number."""
    if row[0] != other[0] or not set(days_of(row)) & set(days_of(other)):
        return False
    return bool(set(numbers_of(row)) & set(numbers_of(other)))


def some_row(chance, web, last_day=12, most=12):
    first, step = chance.randint(1, most), chance.choice((1, 2))
    last = first + step * chance.choice((0, 0, 1, 2, 3, 6))
    since = chance.randrange(last_day)
    until = chance.randint(since + 1, last_day)
    return (chance.choice(STREETS), chance.randrange(len(web[1])), first, last, step, since, until)


def some_rows(chance, web):
    """Rows of a web by chance: those that clash with none ahead."""
    rows = []
    for _ in range(chance.randint(0, 16) if web[1] else 0):
        row = some_row(chance, web)
        if len(rows) < 12 and not any(rows_clash(row, other) for other in rows):
            rows.append(row)
    return tuple(sorted(rows))


def stretches(web, rows, day):
    """(street, number, road, low, high, whether it is its row's last one) of each number of a day."""
    for row in rows:
        if day in days_of(row):
            numbers = numbers_of(row)
            each = val(long_of(web, row[1])) / len(numbers)
            for at, number in enumerate(numbers):
                yield row[0], number, row[1], at * each, (at + 1) * each, number == numbers[-1]


def found_by_the_words(web, rows, street, number, day):
    """[70]: (road, low, high) as Fractions."""
    told = [(road, low, high) for name, many, road, low, high, _ in stretches(web, rows, day)
            if (name, many) == (street, number)]
    assert len(told) < 2
    return told[0] if told else None


def numbers_by_the_words(web, rows, number, far, day):
    """[70]: the rising list of a spot."""
    return sorted((street, many) for street, many, road, low, high, is_last in stretches(web, rows, day)
                  if road == number and (low <= far < high or (is_last and far == high)))


def later_by_the_words(web, rows, street, number, day, later_day):
    """[71]."""
    told = found_by_the_words(web, rows, street, number, day)
    if told is None:
        return []
    road, low, high = told
    return numbers_by_the_words(web, rows, road, (low + high) / 2, later_day)


def cells_of(code):
    """The (column, row) of the tiles of four figures in a tile, fourth by fourth."""
    column, row, side = 0, 0, 16
    for figure in code:
        side //= 2
        column += side * (figure in "13")
        row += side * (figure in "23")
    return {(column + right, row + up) for right in range(side) for up in range(side)}


CELLS = sorted(cells_of(""))


def some_codes(chance, most=6):
    """A few codes of at most four figures, no one the begin of another one."""
    codes = []
    for _ in range(chance.randint(1, most)):
        code = "".join(chance.choices("0123", k=chance.choice((0, 1, 1, 2, 2, 3, 4))))
        if not any(code.startswith(other) or other.startswith(code) for other in codes):
            codes.append(code)
    return tuple(sorted(codes))


def some_moves(chance, most=24, last_day=9):
    days = sorted(chance.randint(0, last_day) for _ in range(chance.randint(0, most)))
    return tuple((day, some_codes(chance), chance.choice(REGIONS)) for day in days)


def owner_of(moves, cell, day):
    """[80]: the region of a cell, looked for from the last move on."""
    for since, codes, region in reversed(moves):
        if since <= day and any(cell in cells_of(code) for code in codes):
            return region
    return "land"


def map_of(moves, day):
    """[80]: the region of each cell."""
    told = dict.fromkeys(CELLS, "land")
    for since, codes, region in moves:
        if since <= day:
            for code in codes:
                told.update(dict.fromkeys(cells_of(code), region))
    return told


def fewest_codes(cells, code=""):
    """The fewest codes of a lot of cells, from the land downwards."""
    inside = cells_of(code)
    if inside <= cells:
        return (code,)
    if not inside & cells:
        return ()
    return tuple(part for figure in "0123" for part in fewest_codes(cells, code + figure))


def rim_by_the_words(moves, region, day):
    """[81]: each cell's neighbours looked at one by one."""
    told = map_of(moves, day)
    found = []
    for (column, row), owner in told.items():
        x, y = 4 * column, 4 * row
        about = (
            ((column - 1, row), ((x, y), (x, y + 4))), ((column + 1, row), ((x + 4, y), (x + 4, y + 4))),
            ((column, row - 1), ((x, y), (x + 4, y))), ((column, row + 1), ((x, y + 4), (x + 4, y + 4))),
        )
        found += [side for other, side in about if owner == region and told.get(other) != region]
    return sorted(found)


def some_zones(chance, last_instant=9 * 1440):
    """Zones by chance, with minutes few enough that tellings come twice and never."""
    zones = []
    for region in sorted(chance.sample(REGIONS, chance.randint(0, 3))):
        begins = sorted({0, *(chance.randrange(1, last_instant) for _ in range(chance.randint(0, 11)))})
        zones.append((region, tuple((begin, chance.choice((-900, -60, -30, 0, 30, 61, 900))) for begin in begins)))
    return tuple(zones)


def minutes_by_the_words(moves, zones, cell, instant):
    """[90]: how many minutes more than the instant clocks show in a cell."""
    shifts = dict(zones).get(owner_of(moves, cell, instant // 1440), ((0, 0),))
    return [minutes for begin, minutes in shifts if begin <= instant][-1]


def shown_by_the_words(moves, zones, cell, instant):
    whole = instant + minutes_by_the_words(moves, zones, cell, instant)
    return whole // 1440, whole % 1440 // 60, whole % 60


def instants_by_the_words(moves, zones, cell, telling):
    """[90]: every instant that is not too far off, one by one."""
    day, hour, minute = telling
    whole = day * 1440 + hour * 60 + minute
    return [instant for instant in range(max(0, whole - 900), max(0, whole + 901))
            if shown_by_the_words(moves, zones, cell, instant) == telling]


def middle_of_cell(cell):
    return Fraction(4 * cell[0] + 2), Fraction(4 * cell[1] + 2)
