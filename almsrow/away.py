"""Days away, and those of them that cost."""

from almsrow.people import YEAR
from almsrow.walking import behind, last_evening


def away_days(deed, book, moment, name):
    """The days, rising, on which the name is away; NoName where it didn't come."""
    return _days_of(_standing_with(deed, book, moment, name), name)


def lost_days(deed, book, moment, name):
    """The days, rising, that the name lost; NoName where it didn't come."""
    standing = _standing_with(deed, book, moment, name)
    many = {}
    lost = []
    for day in _days_of(standing, name):
        if day <= last_evening(moment) and standing.was_found(name, day):
            year = day // YEAR
            many[year] = many.get(year, 0) + 1
            if many[year] > standing.terms[2]:
                lost.append(day)
    return lost


def _standing_with(deed, book, moment, name):
    standing = behind(deed, book, moment)
    standing.people.need_name(name)
    return standing


def _days_of(standing, name):
    spans = standing.people.away.get(name, [])
    return sorted({day for start, many in spans for day in range(start, start + many)})
