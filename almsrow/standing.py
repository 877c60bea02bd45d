"""How a house stands while a book is walked."""

from almsrow.deeds import weights_of
from almsrow.holding import broken
from almsrow.people import YEAR, People
from almsrow.purse import Purse
from almsrow.rounds import round_of


class Place:
    """A place: who is in it, its open turn, the turns that were spent since it became empty."""

    def __init__(self, number, by_row, rate, rules):
        self.number = number
        self.by_row = by_row
        self.rate = rate
        self.rules = rules
        self.dweller = None
        self.turn = None
        self.spent = 0
        self.fallen = False

    def is_rowed(self):
        """True where the row is asked for the place when it is empty."""
        return self.by_row or self.fallen


class Standing:
    """All that a walk has come to.

    homes tells of each name that ever was housed its (place, day, number); turn_rows, history and
    idle are as they are told of a moment; nights_away tells of (name, year) how many evenings found
    the name both housed and away; lost has each (name, day) that is lost.
    """

    def __init__(self, deed):
        self.founder = deed[0]
        self.places = [Place(k, deed[1][k][0] == "row", deed[1][k][1], deed[1][k][2]) for k in range(len(deed[1]))]
        self.holders = [holder for holder, _ in deed[2]]
        self.terms = deed[3]
        self.people = People()
        self.waiting = []
        self.homes = {}
        self.turn_rows = []
        self.history = []
        self.idle = []
        self.nights_away = {}
        self.lost = {}
        self.purse = Purse()
        # Made once, as it is asked for each turn.
        self.round_told = round_of(weights_of(deed))

    def seat_of_turn(self, turn):
        """The seat of the turn."""
        return self.round_told[turn % len(self.round_told)]

    def why_unfit(self, place, name, day):
        """Why the name isn't fit for the place on the day: a word or a clause's number; None where it is."""
        missing = self.people.missing(name)
        if missing is not None:
            return missing
        if name in self.homes:
            return "housed"
        return broken(place.rules, self.people.who(self.founder, name, day))

    def was_found(self, name, day):
        """True where the evening of a day that was walked found the name housed."""
        if name not in self.homes or day < self.homes[name][1]:
            return False
        return name not in self.people.gone or day < self.people.gone[name]

    def home_of(self, name):
        """The (place, day, number) of a name that is housed, None of any other."""
        if name in self.people.gone:
            return None
        return self.homes.get(name)

    def find_away(self, day):
        """Notes whom the day's evening finds away, and for whom the day is lost."""
        for place in self.places:
            name = place.dweller
            if name is not None and self.people.is_away(name, day):
                year = (name, day // YEAR)
                self.nights_away[year] = self.nights_away.get(year, 0) + 1
                if self.nights_away[year] > self.terms[2]:
                    self.lost[(name, day)] = True

    def house(self, place, name, moment, how):
        """Lets the name have the place."""
        place.dweller = name
        place.turn = None
        place.spent = 0
        place.fallen = False
        self.homes[name] = (place.number,) + moment
        self.leave_row(name)
        self.history.append((place.number,) + moment + (name, how))

    def leave_row(self, name):
        """Takes the name out of the row, if it is in it."""
        self.waiting = [other for other in self.waiting if other != name]

    def pass_seats(self, holder, other):
        """Gives all seats of the holder to the other one, None for nobody."""
        self.holders = [other if name == holder else name for name in self.holders]

    def ask_row(self, place, moment):
        """Lets the first one of the row who is fit for the place have it, if there is one."""
        skips = self._skips(place, moment[0])
        if len(skips) < len(self.waiting):
            self.house(place, self.waiting[len(skips)], moment, ("row", skips))

    def _skips(self, place, day):
        """Those of the row ahead of the first one who is fit for the place, each with its clause."""
        skips = []
        for name in self.waiting:
            number = self.why_unfit(place, name, day)
            if number is None:
                break
            skips.append((name, number))
        return tuple(skips)
