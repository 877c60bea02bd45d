"""Of any thing: whether it is a day, a moment, a page; and how pages stand."""

from almsrow.kinds import is_count, is_from, is_number, is_tuple, is_word

KINDS = ("folk", "heir", "sell", "away", "rent", "ask", "name", "go")
LAST_DAY = 99999
EVENING = 1000


def is_day(thing):
    """True of a number from 0 to the last day."""
    return _is_up_to(thing, LAST_DAY)


def is_moment(thing):
    """True of a day and a number up to that of the evening."""
    if not is_tuple(thing, 2):
        return False
    return is_day(thing[0]) and _is_up_to(thing[1], EVENING)


def is_page(thing):
    """True of a page of one of the eight kinds."""
    if not isinstance(thing, tuple) or len(thing) < 3:
        return False
    if not is_moment(thing[:2]) or thing[1] == EVENING:
        return False
    return _is_told(thing[0], thing[2], thing[3:])


def page_moment(page):
    """The moment of the page."""
    return page[:2]


def stands_by(page):
    """What pages are sorted by, to stand as they are done."""
    return (page[0], page[1], KINDS.index(page[2]), page[3:])


def _is_told(day, kind, rest):
    """True where the rest is what a page of that kind tells behind the name of its kind."""
    if kind == "folk":
        return len(rest) == 4 and _is_newcomer(day, rest)
    if kind == "heir" or kind == "sell":
        return len(rest) == 2 and is_word(rest[0]) and is_word(rest[1]) and rest[0] != rest[1]
    if kind == "away":
        return len(rest) == 2 and is_word(rest[0]) and is_from(rest[1], 1)
    if kind == "rent":
        return len(rest) == 1 and is_count(rest[0])
    if kind == "ask" or kind == "go":
        return len(rest) == 1 and is_word(rest[0])
    if kind == "name":
        return len(rest) == 3 and is_word(rest[0]) and is_count(rest[1]) and is_word(rest[2])
    return False


def _is_newcomer(day, rest):
    name, town, born, parent = rest
    if not is_word(name) or not is_word(town) or not is_number(born) or born > day:
        return False
    return parent == "" or (is_word(parent) and parent != name)


def _is_up_to(thing, most):
    return is_count(thing) and thing <= most
