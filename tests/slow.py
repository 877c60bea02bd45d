"""A house walked by a log: each look goes through all that happened, and nothing else is kept.

Written apart from the program, and slow; with it books are made at hand whose pages are mostly no idle ones.
"""

from fractions import Fraction
from functools import lru_cache

from tests.common import TOWNS, holds, maker, some_literal
from tests.test_rounds import slow_round

NAMES = ("ann", "bet", "cis", "dot", "eve", "fay", "gil", "hob", "ivo", "jem")
KINDS = ("folk", "heir", "sell", "away", "rent", "ask", "name", "go")


def page_of(line):
    """A page by its words, - for no parent."""
    return tuple(int(word) if word[-1].isdigit() else word.replace("-", "") for word in line.split())


def book_of(text):
    """A book by its pages' words, ; or a new line between."""
    pages = tuple(page_of(line) for line in text.replace("\n", ";").split(";") if line.strip())
    assert list(pages) == sorted(pages, key=stands)
    return pages


def slow_ties(pairs, one, other):
    """The ties by steps from name to name, up and down; in a tree there is just one way."""
    steps, seen = {one: 0}, [one]
    for name in seen:
        for child, parent in pairs:
            for there, back in ((child, parent), (parent, child)):
                if there == name and back and back not in steps:
                    steps[back] = steps[name] + 1
                    seen.append(back)
    return steps.get(other)


def slow_shares(some, pence):
    """Shares told penny by penny: each penny left goes to the due that is farthest below its part."""
    whole = [Fraction(pence * due, sum(some)) for due in some]
    told = [int(part) for part in whole]
    given = []
    while sum(told) < pence:
        free = [k for k in range(len(some)) if k not in given]
        best = max(whole[k] - told[k] for k in free)
        given.append([k for k in free if whole[k] - told[k] == best][0])
        told[given[-1]] += 1
    return tuple(told)


class Slow:
    """The log of a walk: tuples, the first word telling what happened."""

    def __init__(self, deed):
        self.deed = deed
        self.log = []
        self.day = None
        self.said = slow_round(tuple(weight for _, weight in deed[2]))

    def of(self, *words):
        return [row for row in self.log if row[0] in words]

    def came(self):
        return {row[1]: row[2:] for row in self.of("came")}

    def pairs(self):
        return tuple((name, told[2]) for name, told in self.came().items())

    def gone(self):
        return sorted(row[1] for row in self.of("went"))

    def ever_in(self):
        return {row[4]: row for row in self.of("in")}

    def who_is_in(self, place):
        rows = [row for row in self.of("in") if row[1] == place and row[4] not in self.gone()]
        return rows[-1] if rows else None

    def empty(self, place):
        return self.who_is_in(place) is None

    def row(self):
        out = self.gone() + list(self.ever_in())
        return [row[1] for row in self.of("asked") if row[1] not in out]

    def since_emptied(self, place):
        at = max([k for k, row in enumerate(self.log) if row[0] == "in" and row[1] == place], default=-1)
        return [row for row in self.log[at + 1:] if row[0] in ("spent", "left", "fell") and row[1] == place]

    def has_fallen(self, place):
        return "fell" in [row[0] for row in self.since_emptied(place)]

    def is_rowed(self, place):
        return self.deed[1][place][0] == "row" or self.has_fallen(place)

    def ends(self):
        """How each turn ended."""
        told = {}
        for row in self.log:
            if row[0] == "given":
                told[row[2]] = ("open", row[4])
            if row[0] == "spent":
                told[row[2]] = ("spent", row[3])
            if row[0] == "left":
                told[row[2]] = ("left",)
            if row[0] == "in" and row[5][0] == "named":
                told[row[5][1]] = ("named", row[4])
        return told

    def turn_rows(self):
        ends = self.ends()
        return [(row[2], row[1], row[3], ends[row[2]]) for row in self.of("given")]

    def open_turn(self, place):
        for turn, its, _, end in self.turn_rows():
            if its == place and end[0] == "open":
                seat = self.said[turn % len(self.said)]
                return (turn, seat, self.holder(seat), end[1])
        return None

    def holder(self, seat):
        return ([self.deed[2][seat][0]] + [row[2] for row in self.of("seat") if row[1] == seat])[-1]

    def holders(self):
        return tuple(self.holder(seat) for seat in range(len(self.deed[2])))

    def heirs(self):
        told = {row[1]: row[2] for row in self.of("heir")}
        return sorted((holder, other) for holder, other in told.items() if holder not in self.gone())

    def who(self, name, day):
        town, born, _ = self.came()[name]
        age = 0
        while born + 364 * (age + 1) <= day:
            age += 1
        founder = self.deed[0]
        return (town, age, slow_ties(self.pairs(), name, founder) if founder in self.came() else None)

    def first_broken(self, place, name, day):
        who = self.who(name, day)
        for k, clause in enumerate(self.deed[1][place][2]):
            if not [literal for literal in clause if holds(literal, who)]:
                return k
        return None

    def why_not(self, place, name, day):
        if name not in self.came():
            return "folk"
        if name in self.gone():
            return "gone"
        if name in self.ever_in():
            return "housed"
        return self.first_broken(place, name, day)

    def history(self):
        return [row[1:] for row in self.of("in")]

    def idle(self):
        return [row[1:] for row in self.of("idle")]

    def away(self, name):
        spans = [range(row[2], row[2] + row[3]) for row in self.of("away") if row[1] == name]
        return sorted({day for span in spans for day in span})

    def lost(self, name):
        lost, many = [], {}
        for _, day, found in self.of("evening"):
            if name in found and day in self.away(name):
                many[day // 364] = many.get(day // 364, 0) + 1
                if many[day // 364] > self.deed[3][2]:
                    lost.append(day)
        return lost

    def counted(self, week, name):
        """The days of the week whose evenings found the name and that it didn't lose."""
        return len([row for row in self.of("evening") if row[1] // 7 == week and name in row[2]
                    and row[1] not in self.lost(name)])

    def chest(self):
        return sum(row[-1] for row in self.of("rent")) - sum(row[-1] for row in self.of("paid", "back"))

    def owed(self):
        """All that was due by a week, less what was paid, given back, struck of it since."""
        left = {}
        for row in self.of("due", "paid", "back", "struck"):
            of, name, pence = row[-3:]
            left[of, name] = left.get((of, name), 0) + (pence if row[0] == "due" else -pence)
        return [(of, name, pence) for (of, name), pence in sorted(left.items()) if pence]

    def pay(self, some):
        return tuple(some) if self.chest() >= sum(some) else slow_shares(some, self.chest())

    def papers(self):
        """Of each week reckoned its paper."""
        told = {}
        for row in self.of("due", "paid", "back", "reckoned"):
            paper = told.setdefault(row[1], ([], [], []))
            if row[0] in ("due", "paid"):
                paper[row[0] == "paid"].append(row[2:])
            elif row[0] == "back":
                paper[2].append(row[2:])
        return {week: tuple(tuple(part) for part in paper) for week, paper in told.items()}

    def sums(self):
        words = ("rent", "paid", "back")
        told = [sum(row[-1] for row in self.of(word)) for word in words]
        owed, struck = sum(row[-1] for row in self.owed()), sum(row[-1] for row in self.of("struck"))
        return tuple(told) + (owed, struck, self.chest())

    def gowns(self, name):
        if name not in self.ever_in():
            return []
        first, many = self.ever_in()[name][2], 364 * self.deed[3][3]
        return [first] + [day for _, day, found in self.of("evening")
                          if name in found and day > first and (day - first) % many == 0]

    def has(self, name, day):
        rows = [row for row in self.of("in") if row[4] == name and name not in self.gone()]
        found = [row[1] for row in self.of("evening") if name in row[2]]
        cost = [other for other in self.away(name) if other in found and other // 364 == day // 364]
        return (
            rows[0][1] if rows else None, rows[0][2:4] if rows else None,
            sum(row[-1] for row in self.of("paid", "back") if row[-2] == name),
            sum(row[-1] for row in self.owed() if row[1] == name),
            len(self.gowns(name)), max(0, self.deed[3][2] - len(cost)),
        )

    # What happens.

    def reckon(self, week):
        housed = sorted((row[4], self.deed[1][row[1]][1]) for row in map(self.who_is_in, range(len(self.deed[1])))
                        if row)
        some = [rate * self.counted(week, name) for name, rate in housed]
        told = self.pay(some)
        self.log.append(("reckoned", week))
        self.log += [("due", week, name, due) for (name, _), due in zip(housed, some)]
        self.log += [("paid", week, name, pence) for (name, _), pence in zip(housed, told)]
        for of in sorted({row[0] for row in self.owed()}):
            rows = [row for row in self.owed() if row[0] == of]
            told = self.pay([row[2] for row in rows])
            self.log += [("back", week, of, row[1], pence) for row, pence in zip(rows, told) if pence]

    def ask(self, place, day, number):
        row = self.row()
        for j, name in enumerate(row):
            if self.why_not(place, name, day) is None:
                skips = tuple((other, self.first_broken(place, other, day)) for other in row[:j])
                self.log.append(("in", place, day, number, name, ("row", skips)))
                return

    def evening(self, day):
        window, tries = self.deed[3][:2]
        for place in range(len(self.deed[1])):
            if self.empty(place) and not self.is_rowed(place):
                turn = self.open_turn(place)
                if turn and turn[3] == day:
                    self.log.append(("spent", place, turn[0], day))
                while not self.open_turn(place) and not self.has_fallen(place):
                    if len(self.since_emptied(place)) == tries:
                        self.log.append(("fell", place))
                        break
                    t = len(self.of("given"))
                    self.log.append(("given", place, t, day, day + window))
                    if self.holder(self.said[t % len(self.said)]) is None:
                        self.log.append(("left", place, t))
            if self.empty(place) and self.is_rowed(place):
                self.ask(place, day, 1000)
        rows = [self.who_is_in(place) for place in range(len(self.deed[1]))]
        self.log.append(("evening", day, [row[4] for row in rows if row]))
        if (day + 1) % 7 == 0:
            self.reckon(day // 7)

    def to(self, day):
        """Walks all evenings ahead of the day."""
        while self.day is not None and self.day < day:
            self.evening(self.day)
            self.day += 1
        self.day = day

    def word(self, page):
        kind, rest = page[2], page[3:]
        came, gone = self.came(), self.gone()
        if kind == "folk":
            faults = (("twice", rest[0] in came), ("parent", rest[3] and rest[3] not in came))
        elif kind in ("ask", "go", "away"):
            faults = (("folk", rest[0] not in came), ("gone", rest[0] in gone),
                      ("housed", kind == "ask" and rest[0] in self.ever_in()),
                      ("waits", kind == "ask" and rest[0] in self.row()))
        elif kind in ("heir", "sell"):
            faults = (("holder", rest[0] in gone), ("folk", rest[1] not in came), ("gone", rest[1] in gone))
        elif kind == "name":
            return self.word_of_naming(page[0], *rest)
        else:
            faults = ()
        return next((word for word, fails in faults if fails), None)

    def word_of_naming(self, day, holder, place, person):
        if place >= len(self.deed[1]):
            return "place"
        if not self.empty(place):
            return "full"
        if not self.open_turn(place):
            return "turn"
        if self.open_turn(place)[2] != holder:
            return "holder"
        why = self.why_not(place, person, day)
        return "rules" if type(why) is int else why

    def page(self, page):
        self.to(page[0])
        word = self.word(page)
        if word:
            self.log.append(("idle", page, word))
        else:
            self.do(page[0], page[1], page[2], page[3:])

    def do(self, day, number, kind, rest):
        if kind == "folk":
            self.log.append(("came",) + rest)
        if kind == "heir":
            self.log.append(("heir",) + rest)
        if kind == "away":
            self.log.append(("away", rest[0], day, rest[1]))
        if kind == "sell":
            self.seats(rest[0], rest[1])
        if kind == "rent":
            self.log.append(("rent", rest[0]))
        if kind == "name":
            turn = self.open_turn(rest[1])[0]
            self.log.append(("in", rest[1], day, number, rest[2], ("named", turn, rest[0])))
        if kind == "ask":
            self.log.append(("asked", rest[0]))
            for place in range(len(self.deed[1])):
                if self.empty(place) and self.is_rowed(place):
                    self.ask(place, day, number)
        if kind == "go":
            self.go(rest[0], day, number)

    def go(self, name, day, number):
        mine = [row[1] for row in self.of("in") if row[4] == name]
        heir = dict(self.heirs()).get(name)
        self.log.append(("went", name))
        self.log += [("struck", name, of, name, pence) for of, other, pence in self.owed() if other == name]
        self.seats(name, None if heir in self.gone() else heir)
        if mine and self.deed[1][mine[0]][0] == "row":
            self.ask(mine[0], day, number)

    def seats(self, holder, other):
        for seat, name in enumerate(self.holders()):
            if name == holder:
                self.log.append(("seat", seat, other))

    def facts(self, day):
        """All that is told behind a moment of the day."""
        places = range(len(self.deed[1]))
        rows = [self.who_is_in(place) for place in places]
        names = list(self.came())
        return {
            "folk": self.pairs(), "gone": tuple(self.gone()), "row": tuple(self.row()), "idle": self.idle(),
            "came": self.came(), "who": {name: self.who(name, day) for name in names},
            "placed": tuple(row and (row[4], row[2], row[3]) for row in rows),
            "fallen": tuple(place for place in places if self.has_fallen(place) and rows[place] is None),
            "why": {(place, name): self.why_not(place, name, day) for place in places for name in NAMES + ("nobody",)},
            "holders": self.holders(), "heirs": self.heirs(), "turns": self.turn_rows(), "history": self.history(),
            "open": [self.open_turn(place) for place in places],
            "away": {name: self.away(name) for name in names}, "lost": {name: self.lost(name) for name in names},
            "gowns": {name: self.gowns(name) for name in names},
            "has": {name: self.has(name, day) for name in names},
            "papers": self.papers(), "owed": self.owed(), "chest": self.chest(), "sums": self.sums(),
            "struck": [row[1:3] + row[4:] for row in self.of("struck")],
        }


def slow_weeks(deed, book, weeks):
    """All that is told behind the reckoning of each of the weeks, in one walk."""
    slow, left, told = Slow(deed), list(book), []
    for week in weeks:
        while left and left[0][0] <= 7 * week + 6:
            slow.page(left.pop(0))
        slow.to(7 * week + 7)
        facts = slow.facts(7 * week + 6)
        facts["counted"] = {name: slow.counted(week, name) for name in slow.came()}
        told.append(facts)
    return told


def slow_behind(deed, book, moment):
    """The log behind the moment of the book."""
    slow = Slow(deed)
    pages = [page for page in book if page[:2] <= moment]
    for page in pages:
        slow.page(page)
    if pages:
        slow.to(moment[0] + (moment[1] == 1000))
    return slow


def slow_facts(deed, book, moment):
    """All that is told behind the moment of the book."""
    return slow_behind(deed, book, moment).facts(moment[0])


# Deeds and books made by a seed.


def some_deed(rng):
    places = tuple(
        (rng.choice(("turn", "turn", "row")), rng.randint(1, 9),
         tuple(tuple(some_near(rng) for _ in range(rng.randint(1, 2))) for _ in range(rng.choice((0, 1, 1, 2)))))
        for _ in range(rng.randint(1, 4))
    )
    seats = tuple((rng.choice(NAMES[:5]), rng.randint(1, 4)) for _ in range(rng.randint(1, 4)))
    return (rng.choice(NAMES[:3]), places, seats,
            (rng.randint(1, 4), rng.randint(1, 3), rng.randint(0, 5), rng.randint(1, 2)))


def some_near(rng):
    """A literal of which the folk of some_page are near."""
    literal = some_literal(rng)
    if literal[0] == "age":
        return ("age", rng.choice((0, 60, 61)), rng.choice((None, 62)))
    return literal


def some_name(rng, some):
    some = list(some)
    return rng.choice(some) if some and rng.random() < 0.93 else rng.choice(NAMES)


def some_kind(rng, slow):
    came, here = slow.came(), [name for name in slow.came() if name not in slow.gone()]
    some = ["folk"] * (30 if len(came) < 5 else 3 if len(came) < len(NAMES) else 0)
    some += ["heir", "heir", "sell", "away", "away", "rent", "go", "go"]
    some += ["ask"] * 8 if [name for name in here if name not in slow.row() and name not in slow.ever_in()] else []
    some += ["name"] * (9 if [place for place in range(len(slow.deed[1])) if slow.open_turn(place)] else 0)
    return rng.choice(some) if rng.random() < 0.93 else rng.choice(KINDS)


def some_page(rng, slow, day, number):
    """A page that can be done, mostly, behind what was walked."""
    return (day, number) + some_told(rng, slow, day)


def some_told(rng, slow, day):
    kind = some_kind(rng, slow)
    here = [name for name in slow.came() if name not in slow.gone()]
    if kind == "folk":
        return some_newcomer(rng, slow, day)
    if kind == "rent":
        return (kind, rng.randint(0, 99))
    if kind in ("heir", "sell"):
        holder = some_name(rng, [name for name in slow.holders() if name])
        other = some_name(rng, [name for name in here if name != holder])
        return (kind, holder, other) if other != holder else ("rent", 0)
    if kind == "name":
        return some_naming(rng, slow, day, here)
    if kind == "away":
        return (kind, some_name(rng, here), rng.choice((1, 2, 3, 9)))
    if kind == "ask":
        here = [name for name in here if name not in slow.ever_in() and name not in slow.row()] or here
    return (kind, some_name(rng, here))


def some_newcomer(rng, slow, day):
    came = list(slow.came())
    name = some_name(rng, [name for name in NAMES if name not in came])
    born = day - 364 * rng.choice((0, 59, 60, 61, 61)) - rng.choice((0, 0, 359, 361, 363))
    parent = some_name(rng, came) if rng.random() < 0.6 else ""
    return ("folk", name, rng.choice(TOWNS), born, parent if parent != name else "")


def some_naming(rng, slow, day, here):
    places = [place for place in range(len(slow.deed[1])) if slow.open_turn(place)]
    place = rng.choice(places) if places and rng.random() < 0.95 else rng.randint(0, len(slow.deed[1]))
    holder = slow.open_turn(place)[2] if place in places else None
    fit = [name for name in here if place in places and slow.why_not(place, name, day) is None]
    if rng.random() < 0.2:
        fit = []
    return ("name", some_name(rng, [holder] if holder else ()), place, some_name(rng, fit or here))


def stands(page):
    return page[:2] + (KINDS.index(page[2]),) + page[3:]


def some_book(rng, deed, many):
    slow, pages = Slow(deed), []
    day, number = rng.choice((0, 7, 350, 360, 99970)), rng.choice((0, 5))
    while len(pages) < many and day <= 99999 and number <= 999:
        slow.to(day)
        if pages and pages[-1][0] == day and rng.random() < 0.2:
            number = pages[-1][1]
        page = some_page(rng, slow, day, number)
        if not pages or stands(pages[-1]) < stands(page):
            slow.page(page)
            pages.append(page)
        number += 1
        if rng.random() < 0.4:
            day, number = day + rng.choice((1, 1, 1, 2, 3, 6)), rng.choice((0, 0, 4, 900))
    return tuple(pages)


def some_moments(rng, book):
    """Moments ahead of a book, of its pages, of evenings, and behind it."""
    first, last = book[0][0], book[-1][0]
    marks = [(max(first - 1, 0), 1000), (first, 1000), book[0][:2], (last, 1000), (min(last + 9, 99999), 0)]
    marks += [rng.choice(book)[:2] for _ in range(3)]
    marks += [(rng.randint(first, min(last + 2, 99999)), rng.choice((0, 3, 999, 1000))) for _ in range(3)]
    return sorted(set(marks))


@lru_cache(maxsize=None)
def walked_books():
    """Rows (deed, book, moment, all that is told behind it)."""
    rng = maker(43)
    rows = []
    for _ in range(70):
        deed = some_deed(rng)
        book = some_book(rng, deed, rng.choice((6, 20, 30, 40)))
        rows += [(deed, book, moment, slow_facts(deed, book, moment)) for moment in some_moments(rng, book)]
    return tuple(rows)


def with_rents(rng, book, most):
    """The book with some rents more, at times just behind a reckoning or just ahead of it."""
    first, last = book[0][0], book[-1][0]
    some = set()
    for _ in range(rng.choice((0, 2, 5, 8))):
        day = rng.randint(first, min(last + 15, 99999))
        some.add((day - rng.choice((0, day % 7 if day - day % 7 >= first else 0)), rng.randint(0, 999), "rent",
                  rng.choice((1, rng.randint(0, most)))))
    return tuple(sorted(set(book) | some, key=stands))


@lru_cache(maxsize=None)
def walked_weeks():
    """Rows (deed, book, week, all that is told behind its reckoning), week by week of each book."""
    rng = maker(60)
    rows = []
    for _ in range(45):
        deed = some_deed(rng)
        # Terms such that days are lost and rows are let in soon.
        deed = deed[:3] + ((rng.randint(1, 2), 1, rng.randint(0, 3), 1),)
        book = with_rents(rng, some_book(rng, deed, rng.choice((20, 40, 50))), rng.choice((20, 200, 900)))
        first, last = book[0][0] // 7, min(book[-1][0] // 7 + 3, 14284)
        weeks = range(first, last + 1)
        rows += [(deed, book) + row for row in zip(weeks, slow_weeks(deed, book, weeks))]
    return tuple(rows)
