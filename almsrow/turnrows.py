"""The turns of the house: which places they were for, how they ended, which are open."""

from almsrow.deeds import need_place
from almsrow.turning import last_day, turn_holder
from almsrow.walking import behind


def turn_rows(deed, book, moment):
    """Of each turn that was given out: turn, place, day, and how it ended."""
    return behind(deed, book, moment).turn_rows


def next_of_house(deed, book, moment):
    """The turn that is given out next."""
    return len(behind(deed, book, moment).turn_rows)


def open_turn(deed, book, moment, place):
    """The place's open turn, its seat, holder and last day, or None; NoPlace where there is no such place."""
    need_place(deed, place)
    standing = behind(deed, book, moment)
    asked = standing.places[place]
    if asked.turn is None:
        return None
    seat = standing.seat_of_turn(asked.turn)
    return (asked.turn, seat, turn_holder(standing, asked), last_day(standing, asked))
