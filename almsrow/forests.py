"""Forests: names and whose parent each one is."""

from almsrow.errors import NoName
from almsrow.kinds import is_tuple, is_word


def is_forest(thing):
    """True of a tuple of pairs of unlike names, each with a parent ahead or none."""
    if not isinstance(thing, tuple):
        return False
    ahead = {"": True}
    for pair in thing:
        if not is_tuple(pair, 2) or not is_word(pair[0]) or not isinstance(pair[1], str):
            return False
        if pair[0] in ahead or pair[1] not in ahead:
            return False
        ahead[pair[0]] = True
    return True


def elders(forest, name):
    """The name itself, its parent, the parent of that one, and so on."""
    parents = dict(forest)
    if name not in parents:
        raise NoName(name)
    rising = [name]
    while parents[rising[-1]] != "":
        rising.append(parents[rising[-1]])
    return tuple(rising)


def kin_of(forest, name, s):
    """The names, rising, that have at most s ties to the name."""
    own = elders(forest, name)
    found = []
    for other, _ in forest:
        at = nearest_of(own, elders(forest, other))
        if at is not None and at[0] + at[1] <= s:
            found.append(other)
    return tuple(sorted(found))


def nearest_of(own, others):
    """The places, in two rows of elders, of the first name that is in both; None where none is."""
    for a in range(len(own)):
        if own[a] in others:
            return (a, others.index(own[a]))
    return None
