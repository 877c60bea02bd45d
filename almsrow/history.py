"""How places went to those who were housed."""

from almsrow.walking import behind


def history(deed, book, moment):
    """Of each time that a place went to somebody: place, day, number, name, and how."""
    return behind(deed, book, moment).history
