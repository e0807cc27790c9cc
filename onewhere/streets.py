"""Streets: the numbers that stand along roads, from day to day ([70], [71])."""

from onewhere.errors import NoDay, NoNumber, NoRows, NoStreet
from onewhere.exact import check_day, in_least_terms, is_from_zero, is_number, is_rising, is_tuple, is_whole, is_word
from onewhere.exact import middle, times
from onewhere.webs import check_spot, check_web, road_long

MOST_ROWS = 12
GREATEST_NUMBER = 999
# Where these stand in a row.
STREET = 0
ROAD = 1
FIRST = 2
SINCE = 5


def is_house(thing):
    """Whether this is a number that may stand along a road."""
    return is_whole(thing) and 1 <= thing <= GREATEST_NUMBER


def are_numbers(first, last, step):
    """Whether these are the first and the last number of a row, and the step from each one to the next."""
    if not is_house(first) or not is_house(last) or not is_whole(step):
        return False
    return first <= last and step in (1, 2) and (last - first) % step == 0


def is_row(web, thing):
    """Whether this is (street, road, first, last, step, since, until), whatever the other rows are."""
    if not is_tuple(thing, 7, 7):
        return False
    street, road, first, last, step, since, until = thing
    if not is_word(street) or not is_number(road, len(web[1])) or not are_numbers(first, last, step):
        return False
    return is_from_zero(since) and is_from_zero(until) and since < until


def has_number(row, number):
    street, road, first, last, step, since, until = row
    return first <= number <= last and (number - first) % step == 0


def is_of_day(row, day):
    street, road, first, last, step, since, until = row
    return since <= day < until


def clash(row, other):
    """Whether two rows give a street one number twice on some day."""
    # Of two spans of days that meet one begins within the other one.
    days_meet = is_of_day(row, other[SINCE]) or is_of_day(other, row[SINCE])
    if row[STREET] != other[STREET] or not days_meet:
        return False
    # With steps of 1 and 2 what both have begins with the greater first number, or the one behind it.
    begin = max(row[FIRST], other[FIRST])
    return any(has_number(row, number) and has_number(other, number) for number in (begin, begin + 1))


def are_rows_of(web, thing):
    """Whether these are rows of a web that is known to be one."""
    if not is_tuple(thing, 0, MOST_ROWS) or not all(is_row(web, part) for part in thing):
        return False
    clashes = [clash(row, behind) for at, row in enumerate(thing) for behind in thing[at + 1:]]
    return is_rising(thing) and not any(clashes)


def are_rows(web, thing):
    """Whether these are rows of the web."""
    check_web(web)
    return are_rows_of(web, thing)


def check_rows(web, thing):
    if not are_rows_of(web, thing):
        raise NoRows("these are no rows of the web: a rising tuple of at most twelve, no number twice on a day")


def check_web_and_rows(web, rows):
    check_web(web)
    check_rows(web, rows)


def check_address(street, number):
    if not is_word(street):
        raise NoStreet("this is no street's name: a text of one to eight small letters")
    if not is_whole(number):
        raise NoNumber("this is no number: a whole number")


def how_many(row):
    """How many numbers a row has."""
    street, road, first, last, step, since, until = row
    return (last - first) // step + 1


def stretch_in_row(web, row, number):
    """(road, low, high) of a number that the row has."""
    street, road, first, last, step, since, until = row
    long = road_long(web, road)
    at = (number - first) // step
    low = times(long, in_least_terms(at, how_many(row)))
    high = times(long, in_least_terms(at + 1, how_many(row)))
    return road, low, high


def stretch_of(web, rows, street, number, day):
    """(road, low, high) of a number as on a day, None where there is none; all are known to be such."""
    for row in rows:
        if row[STREET] == street and is_of_day(row, day) and has_number(row, number):
            return stretch_in_row(web, row, number)
    return None


def find(web, rows, street, number, day):
    """(road, low, high) of the street's number as on the day, None where there is none."""
    check_web_and_rows(web, rows)
    check_address(street, number)
    check_day(day)
    return stretch_of(web, rows, street, number, day)


def number_at(web, row, far):
    """The number of a row whose stretch has a far of its road."""
    street, road, first, last, step, since, until = row
    long = road_long(web, road)
    at = far[0] * long[1] * how_many(row) // (far[1] * long[0])
    # The last stretch has its high, too: the road's end.
    return min(first + at * step, last)


def numbers_of_spot(web, rows, spot, day):
    """(street, number) of each row whose stretch has the spot on the day, rising; all are known to be such."""
    road, far = spot
    here = [row for row in rows if row[ROAD] == road and is_of_day(row, day)]
    return sorted([(row[STREET], number_at(web, row, far)) for row in here])


def numbers_at(web, rows, spot, day):
    """(street, number) of each row whose stretch has the spot on the day, rising."""
    check_web_and_rows(web, rows)
    check_spot(web, spot)
    check_day(day)
    return numbers_of_spot(web, rows, spot, day)


def middle_spot(stretch):
    """The spot in the middle of a stretch (road, low, high)."""
    road, low, high = stretch
    return road, middle(low, high)


def later(web, rows, street, number, day, later_day):
    """(street, number), rising, as on the later day, of what has the middle of its stretch as on the day."""
    check_web_and_rows(web, rows)
    check_address(street, number)
    check_day(day)
    check_day(later_day)
    if later_day < day:
        raise NoDay("the later day is earlier than the day")
    stretch = stretch_of(web, rows, street, number, day)
    if stretch is None:
        return []
    return numbers_of_spot(web, rows, middle_spot(stretch), later_day)
