"""Bounds of seats, and the round of weights."""

from almsrow.weights import first_of, last_of, need_number, need_seat, rounded_up


def bounds_of(weights, seat, k):
    """How often at least, and at most, the seat is in the first k turns."""
    need_seat(weights, seat)
    need_number(k, 0)
    share = k * weights[seat]
    whole = sum(weights)
    return (share // whole, rounded_up(share, whole))


def round_of(weights):
    """The seats' numbers, turn by turn, of one round."""
    made = []
    had = [0] * len(weights)
    for t in range(sum(weights)):
        seat = _due_seat(weights, had, t)
        had[seat] += 1
        made.append(seat)
    return tuple(made)


def _due_seat(weights, had, t):
    """Of the seats whose next window has begun, the one whose window ends first."""
    begun = [seat for seat in range(len(weights)) if first_of(weights, seat, had[seat] + 1) <= t]
    return min([(last_of(weights, seat, had[seat] + 1), seat) for seat in begun])[1]
