"""The folk behind a moment of a book."""

from almsrow.people import people_behind


def folk_at(book, moment):
    """Whose parent each name is that came, a forest."""
    return people_behind(book, moment).forest()


def born_of(book, moment, name):
    """The name's born; NoName where it didn't come."""
    return _people_with(book, moment, name).came[name][1]


def town_of(book, moment, name):
    """The name's town; NoName where it didn't come."""
    return _people_with(book, moment, name).came[name][0]


def type_at(deed, book, moment, name):
    """The name's type on the moment's day; NoName where it didn't come."""
    return _people_with(book, moment, name).who(deed[0], name, moment[0])


def gone(book, moment):
    """The names, rising, that are gone."""
    return tuple(sorted(people_behind(book, moment).gone))


def _people_with(book, moment, name):
    people = people_behind(book, moment)
    people.need_name(name)
    return people
