"""Clocks: what they show at a point of the land, and at which instants they show it ([90], [91])."""

from onewhere.errors import NoInstant, NoTelling, NoZones
from onewhere.exact import is_from_zero, is_number, is_rising, is_tuple, is_whole, is_word
from onewhere.points import check_land_point
from onewhere.regions import check_moves, past_of, region_on

MOST_ZONES = 8
MOST_SHIFTS = 12
MOST_MINUTES = 900
HOURS_OF_DAY = 24
MINUTES_OF_HOUR = 60
INSTANTS_OF_DAY = 1440


def is_shift(thing):
    """Whether this is (instant, minutes)."""
    if not is_tuple(thing, 2, 2):
        return False
    instant, minutes = thing
    return is_from_zero(instant) and is_whole(minutes) and -MOST_MINUTES <= minutes <= MOST_MINUTES


def are_shifts(thing):
    """Whether these are shifts of rising instants, from 0 on."""
    if not is_tuple(thing, 1, MOST_SHIFTS) or not all(is_shift(part) for part in thing):
        return False
    begins = [instant for instant, minutes in thing]
    return begins[0] == 0 and is_rising(begins)


def is_zone(thing):
    """Whether this is (region, shifts)."""
    return is_tuple(thing, 2, 2) and is_word(thing[0]) and are_shifts(thing[1])


def are_zones(thing):
    """Whether these are zones: a rising tuple of at most eight, of unlike regions."""
    if not is_tuple(thing, 0, MOST_ZONES) or not all(is_zone(part) for part in thing):
        return False
    return is_rising([region for region, shifts in thing])


def check_zones(thing):
    if not are_zones(thing):
        raise NoZones("these are no zones: a rising tuple of at most eight of (region, shifts), regions unlike")


def check_clocks(moves, zones, point):
    check_moves(moves)
    check_zones(zones)
    check_land_point(point)


def check_instant(thing):
    if not is_from_zero(thing):
        raise NoInstant("this is no instant: a whole number from 0 on")


def check_telling(thing):
    if not is_tuple(thing, 3, 3) or not is_whole(thing[0]):
        raise NoTelling("this is no telling: a tuple (day, hour, minute)")
    if not is_number(thing[1], HOURS_OF_DAY) or not is_number(thing[2], MINUTES_OF_HOUR):
        raise NoTelling("this is no telling: the hour is from 0 to 23, the minute from 0 to 59")


def day_of(instant):
    return instant // INSTANTS_OF_DAY


def minutes_at(past, zones, instant):
    """How many minutes more than the instant clocks show at a point with such a past of regions."""
    here = region_on(past, day_of(instant))
    found = 0
    for region, shifts in zones:
        for begin, minutes in shifts:
            if region == here and begin <= instant:
                found = minutes
    return found


def telling_of(past, zones, instant):
    """What clocks show at an instant at a point with such a past of regions."""
    whole = instant + minutes_at(past, zones, instant)
    hours, minute = divmod(whole, MINUTES_OF_HOUR)
    day, hour = divmod(hours, HOURS_OF_DAY)
    return day, hour, minute


def shown(moves, zones, point, instant):
    """The telling (day, hour, minute) that clocks show at the point at the instant."""
    check_clocks(moves, zones, point)
    check_instant(instant)
    return telling_of(past_of(moves, point), zones, instant)


def instants_of(past, zones, telling):
    """All instants, rising, at which clocks show a telling at a point with such a past of regions."""
    day, hour, minute = telling
    whole = (day * HOURS_OF_DAY + hour) * MINUTES_OF_HOUR + minute
    # Whatever the region is then, clocks are ahead by one of the zones' minutes, or not at all.
    ahead = [0] + [minutes for region, shifts in zones for begin, minutes in shifts]
    tried = sorted({whole - minutes for minutes in ahead if minutes <= whole})
    return [instant for instant in tried if telling_of(past, zones, instant) == telling]


def instants(moves, zones, point, telling):
    """All instants, rising, at which clocks at the point show the telling."""
    check_clocks(moves, zones, point)
    check_telling(telling)
    return instants_of(past_of(moves, point), zones, telling)


def first_instant(moves, zones, point, telling):
    """The least instant at which clocks at the point show the telling, None where there is none."""
    found = instants(moves, zones, point, telling)
    return found[0] if found else None


def across(moves, zones, point, other, telling):
    """The tellings at the other point, rising, at all instants at which clocks at the point show the telling."""
    check_clocks(moves, zones, point)
    check_land_point(other)
    check_telling(telling)
    there = past_of(moves, other)
    found = instants_of(past_of(moves, point), zones, telling)
    return sorted({telling_of(there, zones, instant) for instant in found})
