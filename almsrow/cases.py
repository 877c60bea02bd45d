"""How long one may have to wait for places, of which each has those who get it ahead."""

from almsrow.kinds import is_tuple, is_word
from almsrow.pages import is_day


def is_case(thing):
    """True of a tuple of rows, each a day and a tuple of unlike names."""
    return isinstance(thing, tuple) and all(_is_row(row) for row in thing)


def saturated(case, day):
    """Of the rows up to the day: "each" and a name for each one, or "set" and some that are more than their names."""
    return _each({r: case[r][1] for r in range(len(case)) if case[r][0] <= day})


def longest(case):
    """A wait paper of the case."""
    for day in sorted({until for until, _ in case}):
        word, rows = saturated(case, day)
        if word == "set":
            return (day, _longest_story(case, day), rows)
    return (None, _story({r: case[r][1] for r in range(len(case))}), None)


def _is_row(row):
    if not is_tuple(row, 2) or not is_day(row[0]) or not isinstance(row[1], tuple):
        return False
    return all(is_word(name) for name in row[1]) and len({name for name in row[1]}) == len(row[1])


def _each(aheads):
    """As saturated, of rows' numbers with their aheads."""
    given = {}
    for r in aheads:
        seen = {}
        if not _gives(aheads, r, given, seen):
            # All names in the aheads of those seen are given to others of them.
            return ("set", tuple(sorted(seen)))
    return ("each", tuple(sorted([(given[name], name) for name in given])))


def _gives(aheads, r, given, seen):
    """Gives the row one of its ahead, for which others may take others; False where it can't be."""
    seen[r] = True
    for name in aheads[r]:
        if name not in given or (given[name] not in seen and _gives(aheads, given[name], given, seen)):
            given[name] = r
            return True
    return False


def _longest_story(case, day):
    """A story by which the one waits until the day, the least one of which a set is told."""
    aheads = {r: case[r][1] for r in range(len(case)) if case[r][0] < day}
    last = None
    for r in range(len(case)):
        if case[r][0] == day:
            more = {**aheads, r: case[r][1]}
            if _each(more)[0] == "each":
                aheads = more
            else:
                last = r
    # Were one of its ahead left behind the others, they and it could have one each.
    return _story(aheads) + ((last, None),)


def _story(aheads):
    """An order of rows that can have one each, in which each has the first of its ahead that is left."""
    story = []
    left = aheads
    while left:
        r = _next_row(left)
        story.append((r, left[r][0]))
        left = _without(left, r)
    return tuple(story)


def _next_row(left):
    """The first row that can have its first one, while all others can have one each."""
    # There always is one: where the first one of each row is given to another row, some rows have
    # among themselves each other's first ones, and can change them round.
    for r in left:
        if _each(_without(left, r))[0] == "each":
            return r
    return None


def _without(left, r):
    """The other rows, without the first one of that row."""
    who = left[r][0]
    return {other: tuple([name for name in left[other] if name != who]) for other in left if other != r}
