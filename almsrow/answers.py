"""What a desk answers to each row but that of a new register, by the things that the row tells."""

from almsrow.cases import longest
from almsrow.gowns import gowns
from almsrow.house import placed, row, why_not
from almsrow.reckoning import owed
from almsrow.texts import book_lines, page_line
from almsrow.waiting import wait_case


def _tell(held, page):
    if held.tell(page):
        return "new"
    return "there"


def _strike(held, page):
    held.strike(page)
    return "ok"


def _take(held, other):
    return str(held.take_in(other))


def _back(held):
    word, thing = held.back()
    if word == "take":
        return "take " + str(len(thing))
    return word + " " + page_line(thing)


def _deeds(held):
    return str(held.deeds())


def _book(held):
    return _lines_or_none(book_lines(held.book()))


def _elder(held, k):
    return _lines_or_none(book_lines(held.elder(k)))


def _placed(held, moment):
    return _words_or_none([_dweller(home) for home in placed(held.deed(), held.book(), moment)])


def _row(held, moment):
    return _words_or_none(row(held.deed(), held.book(), moment))


def _why(held, moment, place, name):
    why = why_not(held.deed(), held.book(), moment, place, name)
    if why is None:
        return "-"
    return str(why)


def _owed(held, week):
    rows = owed(held.deed(), held.book(), week)
    return _lines_or_none([" ".join([str(of), name, str(pence)]) for of, name, pence in rows])


def _gowns(held, moment, name):
    return _words_or_none([str(day) for day in gowns(held.deed(), held.book(), moment, name)])


def _wait(held, day, name, untils):
    _, case = wait_case(held.deed(), held.book(), day, name, untils)
    last = longest(case)[0]
    if last is None:
        return "never"
    return str(last)


def _dweller(home):
    if home is None:
        return "-"
    return home[0]


def _words_or_none(words):
    if not words:
        return "none"
    return " ".join(words)


def _lines_or_none(lines):
    if not lines:
        return "none"
    return "; ".join(lines)


ANSWERS = {
    "tell": _tell,
    "strike": _strike,
    "take": _take,
    "back": _back,
    "deeds": _deeds,
    "book": _book,
    "elder": _elder,
    "placed": _placed,
    "row": _row,
    "why": _why,
    "owed": _owed,
    "gowns": _gowns,
    "wait": _wait,
}
