"""What every module needs: whole numbers, days, words, and fractions reckoned with exactly."""

from onewhere.errors import NoDay

LONGEST_WORD = 8
ZERO = (0, 1)
ONE = (1, 1)
HALF = (1, 2)


def is_whole(thing):
    """Whether this is a whole number: Python counts truths as ints, so they are shut out."""
    return isinstance(thing, int) and not isinstance(thing, bool)


def is_number(thing, many):
    """Whether this is the number of one of so many things, counted from 0."""
    return is_whole(thing) and 0 <= thing < many


def is_from_zero(thing):
    """Whether this is a whole number from 0 on, as days and instants are."""
    return is_whole(thing) and thing >= 0


def check_day(thing):
    if not is_from_zero(thing):
        raise NoDay("this is no day: a whole number from 0 on")


def is_tuple(thing, fewest, most):
    """Whether this is a tuple of so many parts, whatever they are."""
    return isinstance(thing, tuple) and fewest <= len(thing) <= most


def is_rising(things):
    """Whether each of these numbers or texts is greater than the one ahead of it."""
    return all(low < high for low, high in zip(things, things[1:]))


def in_order(things, compare):
    """A new list of the things, rising as compare says: 1, 0 or -1, as order tells it of fractions.

    Python's own sorting goes by the tuples' parts, which is neither the fractions' order nor the points'.
    """
    rows = []
    for thing in things:
        at = len(rows)
        while at > 0 and compare(thing, rows[at - 1]) < 0:
            at -= 1
        rows.insert(at, thing)
    return rows


def is_word(thing):
    """Whether this is a text of one to eight small letters."""
    if not isinstance(thing, str) or not 1 <= len(thing) <= LONGEST_WORD:
        return False
    return all("a" <= letter <= "z" for letter in thing)


def common_divisor(top, bottom):
    """The greatest number that divides both, with the sign of bottom, which is not 0."""
    while bottom:
        top, bottom = bottom, top % bottom
    return top


def is_fraction(thing):
    """Whether this is (top, bottom), bottom above 0, in least terms."""
    if not is_tuple(thing, 2, 2):
        return False
    top, bottom = thing
    if not is_whole(top) or not is_whole(bottom) or bottom < 1:
        return False
    return common_divisor(top, bottom) == 1


def in_least_terms(top, bottom):
    """The fraction of any top and any bottom but 0."""
    # The divisor has the bottom's sign, as Python's remainders have, so the bottom comes out above 0.
    divisor = common_divisor(top, bottom)
    return top // divisor, bottom // divisor


def plus(one, other):
    return in_least_terms(one[0] * other[1] + other[0] * one[1], one[1] * other[1])


def minus(one, other):
    return in_least_terms(one[0] * other[1] - other[0] * one[1], one[1] * other[1])


def times(one, other):
    return in_least_terms(one[0] * other[0], one[1] * other[1])


def over(one, other):
    """The one by the other, which is not 0."""
    return in_least_terms(one[0] * other[1], one[1] * other[0])


def middle(one, other):
    """The fraction half way between two."""
    return times(plus(one, other), HALF)


def amount(fraction):
    """How great a fraction is, whatever its sign."""
    return abs(fraction[0]), fraction[1]


def sign(number):
    """1, 0 or -1, as a whole number is above 0, 0 or below it."""
    if number > 0:
        return 1
    return -1 if number < 0 else 0


def order(one, other):
    """1, 0 or -1, as one fraction is greater than, like or less than the other one.

    Python would compare the tuples by their tops, which is not the fractions' size.
    """
    return sign(one[0] * other[1] - other[0] * one[1])
