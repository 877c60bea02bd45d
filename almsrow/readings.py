"""Pages, rules, books and deeds read from what writes them."""

from almsrow.books import in_order
from almsrow.errors import NoText
from almsrow.pages import EVENING, KINDS, LAST_DAY
from almsrow.wording import Words


def read_page(text):
    """The page that the text writes; or NoText."""
    return _page_of(Words(0, text))


def read_rules(text):
    """The rules that the text writes; or NoText."""
    words = Words(0, text)
    rules = words.take_rules()
    words.need_end()
    return rules


def read_book(lines):
    """The book that the lines write, in whatever order they stand; or NoText."""
    return in_order([_page_of(Words(row, lines[row])) for row in range(len(lines))])


def read_deed(lines):
    """The deed that the lines write; or NoText."""
    founder = _founder_of(_words_at(lines, 0))
    terms = _terms_of(_words_at(lines, 1))
    places = []
    seats = []
    for row in range(2, len(lines)):
        words = Words(row, lines[row])
        if words.take_one(_heads_behind(places, seats)) == "place":
            places.append(_place_of(words))
        else:
            seats.append(_seat_of(words))
    if not seats:
        raise NoText(len(lines), 0)
    return (founder, tuple(places), tuple(seats), terms)


def _page_of(words):
    day = words.take_number(0, LAST_DAY)
    number = words.take_number(0, EVENING - 1)
    kind = words.take_one(KINDS)
    rest = _rest_of(words, day, kind)
    words.need_end()
    return (day, number, kind) + rest


def _rest_of(words, day, kind):
    """What a page of that kind tells behind the name of its kind."""
    if kind == "rent":
        return (words.take_number(0, None),)
    name = words.take_name("")
    if kind == "folk":
        return (name, words.take_name(""), words.take_number(None, day), words.take_parent(name))
    if kind == "heir" or kind == "sell":
        return (name, words.take_name(name))
    if kind == "away":
        return (name, words.take_number(1, None))
    if kind == "name":
        return (name, words.take_number(0, None), words.take_name(""))
    return (name,)


def _words_at(lines, row):
    """The words of the line, void ones where it lacks."""
    if row < len(lines):
        return Words(row, lines[row])
    return Words(row, "")


def _heads_behind(places, seats):
    """The words with which a line can begin behind the lines of these places and seats."""
    if not places:
        return ("place",)
    if not seats:
        return ("place", "seat")
    return ("seat",)


def _founder_of(words):
    words.take_one(("founder",))
    founder = words.take_name("")
    words.need_end()
    return founder


def _terms_of(words):
    words.take_one(("terms",))
    terms = tuple([words.take_number(least, None) for least in (1, 1, 0, 1)])
    words.need_end()
    return terms


def _place_of(words):
    place = (words.take_one(("turn", "row")), words.take_number(1, None), words.take_rules())
    words.need_end()
    return place


def _seat_of(words):
    seat = (words.take_name(""), words.take_number(1, None))
    words.need_end()
    return seat
