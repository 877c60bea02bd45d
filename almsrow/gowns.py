"""The days on which names have gowns."""

from almsrow.people import YEAR
from almsrow.walking import behind_with, last_evening


def gowns(deed, book, moment, name):
    """The days, rising, of the name's gowns by the moment; NoName where it didn't come."""
    return gown_days(behind_with(deed, book, moment, name), moment, name)


def gown_days(standing, moment, name):
    """As gowns, of how all stands behind the moment."""
    if name not in standing.homes:
        return []
    first = standing.homes[name][1]
    step = standing.terms[3] * YEAR
    later = range(first + step, last_evening(moment) + 1, step)
    return [first] + [day for day in later if standing.was_found(name, day)]
