"""The house behind a moment: who is in it, who waits, which places have fallen, why one isn't fit."""

from almsrow.deeds import need_place
from almsrow.walking import behind


def placed(deed, book, moment):
    """Of each place who is in it, since when, None of an empty one."""
    standing = behind(deed, book, moment)
    return tuple([_dweller(standing, place) for place in standing.places])


def row(deed, book, moment):
    """Those who wait, as they asked."""
    return tuple(behind(deed, book, moment).waiting)


def fallen(deed, book, moment):
    """The numbers, rising, of the places that have fallen."""
    places = behind(deed, book, moment).places
    return tuple([place.number for place in places if place.fallen])


def why_not(deed, book, moment, place, name):
    """Why the name isn't fit for the place, None where it is; NoPlace where there is no such place."""
    need_place(deed, place)
    standing = behind(deed, book, moment)
    return standing.why_unfit(standing.places[place], name, moment[0])


def _dweller(standing, place):
    if place.dweller is None:
        return None
    return (place.dweller,) + standing.homes[place.dweller][1:]
