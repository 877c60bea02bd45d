"""Weights of seats, and the windows of their turns."""

from almsrow.errors import NoSeat, NoTurn
from almsrow.kinds import is_number


def is_weights(thing):
    """True of a tuple of one or more numbers from 1 on."""
    if not isinstance(thing, tuple) or len(thing) == 0:
        return False
    return all(is_number(part) and part >= 1 for part in thing)


def first_of(weights, seat, j):
    """The first turn of the window of the seat's j-th turn."""
    need_seat(weights, seat)
    need_number(j, 1)
    return (j - 1) * sum(weights) // weights[seat]


def last_of(weights, seat, j):
    """The last turn of the window of the seat's j-th turn."""
    need_seat(weights, seat)
    need_number(j, 1)
    return rounded_up(j * sum(weights), weights[seat]) - 1


def is_seat(weights, seat):
    """True of a number that is a seat's."""
    return 0 <= seat < len(weights)


def need_seat(weights, seat):
    """Refuses a seat of which there is none."""
    if not is_seat(weights, seat):
        raise NoSeat(seat)


def need_number(number, least):
    """Refuses a turn or a count below the least."""
    if number < least:
        raise NoTurn(number)


def rounded_up(number, by):
    """The least number that is no less than number / by."""
    return -(-number // by)
