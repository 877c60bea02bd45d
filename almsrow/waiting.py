"""Who waits in a house: the case of one in the row, and what comes of a story of it."""

from almsrow.books import in_order, up_to
from almsrow.errors import NoName
from almsrow.pages import EVENING
from almsrow.walking import behind


def wait_case(deed, book, day, name, untils):
    """The places for which the name waits behind the day's evening, and the case of them; or NoName."""
    standing = behind(deed, book, (day, EVENING))
    if name not in standing.waiting:
        raise NoName(name)
    ahead = standing.waiting[:standing.waiting.index(name)]
    places = []
    case = []
    for place in standing.places:
        until = untils[place.number]
        if place.by_row and place.dweller is not None and until is not None and _is_fit(standing, place, name, day):
            places.append(place.number)
            case.append((until, tuple([other for other in ahead if _is_fit(standing, place, other, day)])))
    return (tuple(places), tuple(case))


def story_pages(deed, book, day, places, story):
    """The pages by which the places of a case are emptied as the story tells."""
    dwellers = [place.dweller for place in behind(deed, book, (day, EVENING)).places]
    return tuple([(day + 1, k, "go", dwellers[places[story[k][0]]]) for k in range(len(story))])


def followed(book, day, pages):
    """The book of its pages up to the day, and these of later days."""
    return in_order(up_to(book, (day, EVENING)) + pages)


def _is_fit(standing, place, name, day):
    """True where the name is fit on the next day, when a place may become empty."""
    return standing.why_unfit(place, name, day + 1) is None
