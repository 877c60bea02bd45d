"""The checker of papers of the longest wait."""

from almsrow.errors import NoPaper
from almsrow.kinds import is_count, is_rising, is_tuple, is_word
from almsrow.pages import is_day


def lets_wait(case, thing):
    """The day that a wait paper of the case shows, or None; of any other thing NoPaper."""
    if not _is_shaped(thing):
        raise NoPaper("shape", -1)
    day, story, some = thing
    for k in range(len(story)):
        _need_pair(case, day, story, k)
    _need_end(case, day, story)
    if day is not None:
        _need_set(case, day, some)
    return day


def _is_shaped(thing):
    if not is_tuple(thing, 3) or not isinstance(thing[1], tuple) or not all(_is_pair(pair) for pair in thing[1]):
        return False
    if thing[0] is None:
        return thing[2] is None
    return is_day(thing[0]) and _is_set(thing[2])


def _is_pair(thing):
    return is_tuple(thing, 2) and is_count(thing[0]) and (thing[1] is None or is_word(thing[1]))


def _is_set(thing):
    return isinstance(thing, tuple) and all(is_count(part) for part in thing) and is_rising(thing)


def _need_pair(case, day, story, k):
    """Refuses the pair at place k where it can't go on with what the pairs ahead tell."""
    r, who = story[k]
    ahead = story[:k]
    if r >= len(case) or r in [other for other, _ in ahead]:
        raise NoPaper("row", k)
    until, names = case[r]
    if day is not None and until > day:
        raise NoPaper("late", k)
    if who != _first_left(names, [name for _, name in ahead]):
        raise NoPaper("who", k)
    if who is None and (k < len(story) - 1 or until != day):
        raise NoPaper("end", k)


def _first_left(names, had):
    for name in names:
        if name not in had:
            return name
    return None


def _need_end(case, day, story):
    """Refuses a story that leaves out a place, or at whose end the one waits still."""
    told = [r for r, _ in story]
    for r in range(len(case)):
        if r not in told and (day is None or case[r][0] < day):
            raise NoPaper("lacks", r)
    if day is not None and (not story or story[-1][1] is not None):
        raise NoPaper("last", -1)


def _need_set(case, day, some):
    """Refuses rows that aren't of places up to the day, or not more than the names in their aheads."""
    for k in range(len(some)):
        if some[k] >= len(case) or case[some[k]][0] > day:
            raise NoPaper("set", k)
    if len(some) <= len({name for r in some for name in case[r][1]}):
        raise NoPaper("enough", -1)
