"""Whose each turn is, for ever."""

from almsrow.rounds import round_of
from almsrow.weights import need_number, need_seat


def seat_of(weights, t):
    """The seat of turn t."""
    need_number(t, 0)
    return round_of(weights)[t % sum(weights)]


def how_many(weights, seat, k):
    """How many of the first k turns are the seat's."""
    need_seat(weights, seat)
    need_number(k, 0)
    rounds, rest = divmod(k, sum(weights))
    return rounds * weights[seat] + round_of(weights)[:rest].count(seat)


def nth_turn(weights, seat, j):
    """The number of the seat's j-th turn."""
    need_seat(weights, seat)
    need_number(j, 1)
    rounds, rest = divmod(j - 1, weights[seat])
    return rounds * sum(weights) + _places(weights, seat)[rest]


def next_turn(weights, seat, k):
    """The least turn that is the seat's and no less than k."""
    return nth_turn(weights, seat, how_many(weights, seat, k) + 1)


def _places(weights, seat):
    made = round_of(weights)
    return [t for t in range(len(made)) if made[t] == seat]
