"""The checkers of rounds and of rows of turns."""

from almsrow.errors import NoPaper
from almsrow.kinds import is_number
from almsrow.rounds import bounds_of
from almsrow.weights import is_seat


def lets_round(weights, thing):
    """True of a round paper of the weights; of any other thing NoPaper."""
    if not isinstance(thing, tuple) or len(thing) != sum(weights):
        raise NoPaper("shape", -1)
    for k in range(len(thing)):
        if not _names_seat(weights, thing[k]):
            raise NoPaper("seat", k)
    many = _goes_to(weights, thing)
    if many < len(thing):
        raise NoPaper("bounds", many + 1)
    return True


def lets_row(weights, thing):
    """To how many the row of turns goes; NoPaper where it is no tuple."""
    if not isinstance(thing, tuple):
        raise NoPaper("shape", -1)
    return _goes_to(weights, thing)


def _goes_to(weights, row):
    """The most things at the row's beginning that are seats and keep the bounds."""
    had = [0] * len(weights)
    for k in range(len(row)):
        if not _names_seat(weights, row[k]):
            return k
        had[row[k]] += 1
        if not _keeps(weights, had, k + 1):
            return k
    return len(row)


def _names_seat(weights, thing):
    return is_number(thing) and is_seat(weights, thing)


def _keeps(weights, had, k):
    for seat in range(len(weights)):
        least, most = bounds_of(weights, seat, k)
        if had[seat] < least or had[seat] > most:
            return False
    return True
