"""Days away, and those of them that cost."""

from almsrow.walking import behind_with


def away_days(deed, book, moment, name):
    """The days, rising, on which the name is away; NoName where it didn't come."""
    spans = behind_with(deed, book, moment, name).people.away.get(name, [])
    return sorted({day for start, many in spans for day in range(start, start + many)})


def lost_days(deed, book, moment, name):
    """The days, rising, that the name lost; NoName where it didn't come."""
    standing = behind_with(deed, book, moment, name)
    return [day for other, day in standing.lost if other == name]
