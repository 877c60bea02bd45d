"""Turns of places: opened, spent, named by."""


def turn_evening(standing, place, day):
    """What the day's evening makes of the turns of an empty place that hasn't fallen."""
    if place.turn is not None and last_day(standing, place) == day:
        _end_turn(standing, place.turn, ("spent", day))
        place.turn = None
        place.spent += 1
    while place.turn is None and not place.fallen:
        if place.spent < standing.terms[1]:
            _give_turn(standing, place, day)
        else:
            place.fallen = True


def name_by_turn(standing, place, name, moment):
    """Lets the name have the place by the place's open turn."""
    turn = place.turn
    _end_turn(standing, turn, ("named", name))
    standing.house(place, name, moment, ("named", turn, turn_holder(standing, place)))


def turn_holder(standing, place):
    """Who has the seat of the place's open turn, None where nobody has."""
    return standing.holders[standing.seat_of_turn(place.turn)]


def last_day(standing, place):
    """The last day of the place's open turn."""
    return standing.turn_rows[place.turn][3][1]


def _give_turn(standing, place, day):
    """Gives the next turn of the house to the place: opens it, or spends it at once."""
    turn = len(standing.turn_rows)
    if standing.holders[standing.seat_of_turn(turn)] is None:
        standing.turn_rows.append((turn, place.number, day, ("left",)))
        place.spent += 1
    else:
        standing.turn_rows.append((turn, place.number, day, ("open", day + standing.terms[0])))
        place.turn = turn


def _end_turn(standing, turn, end):
    standing.turn_rows[turn] = standing.turn_rows[turn][:3] + (end,)
