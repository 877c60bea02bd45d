"""Who has the seats, and who has them next."""

from almsrow.people import people_behind
from almsrow.walking import behind


def holders(deed, book, moment):
    """Of each seat its holder, None where it is left."""
    return tuple(behind(deed, book, moment).holders)


def heirs(book, moment):
    """The holders, rising, that aren't gone, each with its heir."""
    people = people_behind(book, moment)
    return [(holder, people.heirs[holder]) for holder in sorted(people.heirs) if holder not in people.gone]
