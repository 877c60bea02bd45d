"""What pages make of names: who came and went, who is whose heir, who is away. No deed turns it."""

from almsrow.books import up_to
from almsrow.errors import NoName
from almsrow.ties import ties

YEAR = 364


class People:
    """The names behind some pages.

    came tells of each name, in the order in which they came, its (town, born, parent); gone the day
    of its going; heirs of each holder the other one of its last "heir"; away of each name its spans
    (day, many).
    """

    def __init__(self):
        self.came = {}
        self.gone = {}
        self.heirs = {}
        self.away = {}

    def need_name(self, name):
        """Refuses a name that didn't come."""
        if name not in self.came:
            raise NoName(name)

    def missing(self, name):
        """Why the name is not here: "folk", "gone"; None where it is."""
        if name not in self.came:
            return "folk"
        if name in self.gone:
            return "gone"
        return None

    def heir_of(self, holder):
        """Who has the holder's seats when it goes, None where nobody has."""
        heir = self.heirs.get(holder)
        if heir in self.gone:
            return None
        return heir

    def is_away(self, name, day):
        """True where the name is away on the day."""
        return any(start <= day < start + many for start, many in self.away.get(name, []))

    def forest(self):
        """Whose parent each one is."""
        return tuple([(name, self.came[name][2]) for name in self.came])

    def who(self, founder, name, day):
        """The type of the name on the day."""
        town, born, _ = self.came[name]
        near = None
        if founder in self.came:
            near = ties(self.forest(), founder, name)
        return (town, (day - born) // YEAR, near)

    def idle_word(self, page):
        """The word by which the page is idle, so far as no house is looked at; None of none."""
        kind = page[2]
        if kind == "folk":
            return self._folk_word(page[3], page[6])
        if kind == "heir" or kind == "sell":
            return self._holder_word(page[3], page[4])
        if kind == "ask" or kind == "go" or kind == "away":
            return self.missing(page[3])
        return None

    def take(self, page):
        """Notes what comes of a page that isn't idle."""
        kind = page[2]
        if kind == "folk":
            self.came[page[3]] = page[4:]
        if kind == "heir":
            self.heirs[page[3]] = page[4]
        if kind == "away":
            self.away.setdefault(page[3], []).append((page[0], page[4]))
        if kind == "go":
            self.gone[page[3]] = page[0]

    def _folk_word(self, name, parent):
        if name in self.came:
            return "twice"
        if parent != "" and parent not in self.came:
            return "parent"
        return None

    def _holder_word(self, holder, other):
        if holder in self.gone:
            return "holder"
        return self.missing(other)


def people_behind(book, moment):
    """The people behind the moment of the book."""
    people = People()
    for page in up_to(book, moment):
        if people.idle_word(page) is None:
            people.take(page)
    return people
