"""The checker of papers of weeks."""

from almsrow.errors import NoPaper
from almsrow.kinds import is_number, is_tuple
from almsrow.reckoning import week_paper

WORDS = ("dues", "paid", "back")


def lets_week(deed, book, week, thing):
    """True of the paper of the week; of any other thing NoPaper; ahead of it NoWeek."""
    paper = week_paper(deed, book, week)
    if not is_tuple(thing, 3) or not all(isinstance(part, tuple) for part in thing):
        raise NoPaper("shape", -1)
    for i in range(len(WORDS)):
        k = _first_unlike(thing[i], paper[i])
        if k is not None:
            raise NoPaper(WORDS[i], k)
    return True


def _first_unlike(things, rows):
    """The least place at which the things aren't the rows, None of none."""
    for k in range(max(len(things), len(rows))):
        if k >= len(things) or k >= len(rows) or not _is_row(things[k], rows[k]):
            return k
    return None


def _is_row(thing, row):
    """True of the very row; a truth is no number."""
    if not is_tuple(thing, len(row)):
        return False
    return all(thing[j] == row[j] and is_number(thing[j]) == is_number(row[j]) for j in range(len(row)))
