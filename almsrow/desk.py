"""A desk: registers by names, and rows answered with texts."""

from almsrow.answers import ANSWERS
from almsrow.errors import NoRow, NoText
from almsrow.pages import EVENING, LAST_DAY
from almsrow.readings import read_deed, read_page
from almsrow.register import Register
from almsrow.wording import name_in, number_in

MOST_REGISTERS = 3

# Of what sorts the words behind the first one are.
SORTS = {
    "tell": ("held", "page"),
    "strike": ("held", "page"),
    "take": ("held", "held"),
    "back": ("held",),
    "deeds": ("held",),
    "book": ("held",),
    "elder": ("held", "number"),
    "placed": ("held", "moment"),
    "row": ("held", "moment"),
    "why": ("held", "moment", "number", "name"),
    "owed": ("held", "week"),
    "gowns": ("held", "moment", "name"),
    "wait": ("held", "day", "name", "untils"),
}


class Desk:
    """Up to three registers by their names."""

    def __init__(self):
        self.held = {}

    def say(self, row):
        """What is answered to the row; NoRow where it is none, else as functions and registers refuse."""
        words = row.split(" ")
        if "" in words:
            raise NoRow(row)
        if words[0] == "house":
            if not self._opens(words[1:]):
                raise NoRow(row)
            return "ok"
        things = self._things_in(words[0], words[1:])
        if things is None:
            raise NoRow(row)
        answer = ANSWERS[words[0]]
        return answer(*things)

    def _opens(self, words):
        """Opens a register by "NAME / LINE / LINE .."; False where it can't be."""
        if len(words) < 3 or words[1] != "/" or name_in(words[0]) is None:
            return False
        if words[0] in self.held or len(self.held) == MOST_REGISTERS:
            return False
        deed = _deed_in(" ".join(words[2:]).split(" / "))
        if deed is None:
            return False
        self.held[words[0]] = Register(deed)
        return True

    def _things_in(self, form, words):
        """What the words tell by the sorts of the form; None where they tell nothing of the kind."""
        if form not in SORTS:
            return None
        # Words too many go to the last one: only a page can be read of several. Where some lack it is void.
        sorts = SORTS[form]
        last = len(sorts) - 1
        things = []
        for sort, text in zip(sorts, words[:last] + [" ".join(words[last:])]):
            thing = self._thing_in(sort, text, things)
            if thing is None:
                return None
            things.append(thing)
        return things

    def _thing_in(self, sort, text, ahead):
        """What the text tells by its sort, behind the things ahead; None where it tells nothing of the kind."""
        if sort == "held":
            return self.held.get(text)
        if sort == "page":
            return _page_in(text)
        if sort == "moment":
            return _moment_in(text)
        if sort == "name":
            return name_in(text)
        if sort == "day" or sort == "week":
            return number_in(text, 0, LAST_DAY)
        if sort == "untils":
            return _untils_in(text, ahead[1], len(ahead[0].deed()[1]))
        return number_in(text, 0, None)


def _deed_in(lines):
    try:
        return read_deed(lines)
    except NoText:
        return None


def _page_in(text):
    try:
        return read_page(text)
    except NoText:
        return None


def _moment_in(text):
    parts = text.split(".")
    if len(parts) != 2:
        return None
    day = number_in(parts[0], 0, LAST_DAY)
    number = number_in(parts[1], 0, EVENING)
    if day is None or number is None:
        return None
    return (day, number)


def _untils_in(text, day, many):
    """A later day or None for each place, which are so many; None where it is none of this."""
    untils = []
    for word in text.split(","):
        until = number_in(word, day + 1, LAST_DAY)
        if until is None and word != "-":
            return None
        untils.append(until)
    if len(untils) != many:
        return None
    return tuple(untils)
