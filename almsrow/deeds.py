"""Of any thing: whether it is a deed; and its weights and places."""

from almsrow.errors import NoPlace
from almsrow.kinds import is_count, is_from, is_rules, is_tuple, is_word


def is_deed(thing):
    """True of a founder, places, seats and terms."""
    if not is_tuple(thing, 4):
        return False
    founder, places, seats, terms = thing
    return is_word(founder) and _are_places(places) and _are_seats(seats) and _are_terms(terms)


def weights_of(deed):
    """The weights of the deed's seats, in their order."""
    return tuple([weight for _, weight in deed[2]])


def need_place(deed, place):
    """Refuses a place of which there is none."""
    if place < 0 or place >= len(deed[1]):
        raise NoPlace(place)


def _are_places(thing):
    if not isinstance(thing, tuple) or len(thing) == 0:
        return False
    return all(_is_place(row) for row in thing)


def _is_place(row):
    if not is_tuple(row, 3) or (row[0] != "turn" and row[0] != "row"):
        return False
    return is_from(row[1], 1) and is_rules(row[2])


def _are_seats(thing):
    if not isinstance(thing, tuple) or len(thing) == 0:
        return False
    return all(is_tuple(row, 2) and is_word(row[0]) and is_from(row[1], 1) for row in thing)


def _are_terms(thing):
    if not is_tuple(thing, 4):
        return False
    window, tries, away, gown = thing
    return is_from(window, 1) and is_from(tries, 1) and is_count(away) and is_from(gown, 1)
