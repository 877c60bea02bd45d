"""The walk of a book."""

from almsrow.books import up_to
from almsrow.errors import NoWeek
from almsrow.pages import EVENING
from almsrow.standing import Standing
from almsrow.turning import name_by_turn, turn_evening, turn_holder
from almsrow.weekly import WEEK, reckon_week


def behind(deed, book, moment):
    """How all stands behind the moment of the book."""
    standing = Standing(deed)
    pages = up_to(book, moment)
    if not pages:
        return standing
    day = pages[0][0]
    for page in pages:
        _walk_evenings(standing, day, page[0])
        day = page[0]
        _turn_page(standing, page)
    _walk_evenings(standing, day, last_evening(moment) + 1)
    return standing


def behind_with(deed, book, moment, name):
    """How all stands behind the moment; NoName where the name didn't come."""
    standing = behind(deed, book, moment)
    standing.people.need_name(name)
    return standing


def behind_week(deed, book, week):
    """How all stands behind the reckoning of the week; NoWeek where it isn't reckoned."""
    if not book or week < book[0][0] // WEEK:
        raise NoWeek(week)
    return behind(deed, book, (WEEK * week + WEEK - 1, EVENING))


def last_evening(moment):
    """The day of the last evening that is walked by the moment, of those behind the first page."""
    if moment[1] == EVENING:
        return moment[0]
    return moment[0] - 1


def _walk_evenings(standing, start, end):
    """Walks the evenings of the days from start on and below end."""
    for day in range(start, end):
        for place in standing.places:
            if place.dweller is None:
                _walk_evening(standing, place, day)
        standing.find_away(day)
        if day % WEEK == WEEK - 1:
            reckon_week(standing, day // WEEK)


def _walk_evening(standing, place, day):
    if not place.is_rowed():
        turn_evening(standing, place, day)
    if place.is_rowed():
        standing.ask_row(place, (day, EVENING))


def _turn_page(standing, page):
    word = _idle_word(standing, page)
    if word is None:
        standing.people.take(page)
        _do_page(standing, page)
    else:
        standing.idle.append((page, word))


def _idle_word(standing, page):
    word = standing.people.idle_word(page)
    if word is None and page[2] == "ask":
        return _ask_word(standing, page[3])
    if word is None and page[2] == "name":
        return _name_word(standing, page)
    return word


def _ask_word(standing, name):
    if name in standing.homes:
        return "housed"
    if name in standing.waiting:
        return "waits"
    return None


def _name_word(standing, page):
    day, _, _, holder, number, person = page
    if number >= len(standing.places):
        return "place"
    place = standing.places[number]
    if place.dweller is not None:
        return "full"
    if place.turn is None:
        return "turn"
    if turn_holder(standing, place) != holder:
        return "holder"
    why = standing.why_unfit(place, person, day)
    if why is None or isinstance(why, str):
        return why
    return "rules"


def _do_page(standing, page):
    moment = page[:2]
    kind = page[2]
    if kind == "sell":
        standing.pass_seats(page[3], page[4])
    if kind == "rent":
        standing.purse.take_rent(page[3])
    if kind == "ask":
        _do_ask(standing, page[3], moment)
    if kind == "name":
        name_by_turn(standing, standing.places[page[4]], page[5], moment)
    if kind == "go":
        _do_go(standing, page[3], moment)


def _do_ask(standing, name, moment):
    standing.waiting.append(name)
    for place in standing.places:
        if place.dweller is None and place.is_rowed():
            standing.ask_row(place, moment)


def _do_go(standing, name, moment):
    standing.leave_row(name)
    standing.purse.strike_debts(name)
    standing.pass_seats(name, standing.people.heir_of(name))
    if name in standing.homes:
        place = standing.places[standing.homes[name][0]]
        place.dweller = None
        if place.by_row:
            standing.ask_row(place, moment)
