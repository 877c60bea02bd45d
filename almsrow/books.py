"""Books: unlike pages as they stand."""

from almsrow.errors import NoPage
from almsrow.kinds import is_rising
from almsrow.pages import is_page, page_moment, stands_by


def is_book(thing):
    """True of a tuple, perhaps of none, of unlike pages that stand as they are done."""
    if not isinstance(thing, tuple) or not all(is_page(part) for part in thing):
        return False
    return is_rising([stands_by(page) for page in thing])


def in_order(pages):
    """The book of just these pages."""
    unlike = {page: True for page in pages}
    return tuple(sorted(unlike, key=stands_by))


def with_page(book, page):
    """The book with the page."""
    return in_order(book + (page,))


def without_page(book, page):
    """The book without the page; NoPage where it isn't in it."""
    if page not in book:
        raise NoPage("none")
    return tuple([other for other in book if other != page])


def joined(one, other):
    """The book of each page that either book has."""
    return in_order(one + other)


def up_to(book, moment):
    """The book of the pages of moments no later."""
    return tuple([page for page in book if page_moment(page) <= moment])
