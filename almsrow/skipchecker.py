"""The checker of those who were skipped in the row."""

from almsrow.errors import NoPaper
from almsrow.history import history
from almsrow.kinds import is_count, is_tuple, is_word


def lets_skips(deed, book, moment, number, thing):
    """True of the skips of that row of the history; of any other thing NoPaper."""
    if not _is_shaped(thing):
        raise NoPaper("shape", -1)
    skips = history(deed, book, moment)[number][4][1]
    for j in range(len(thing)):
        # Who got the place, and who stood behind, are in no skips.
        if j >= len(skips) or thing[j][0] != skips[j][0]:
            raise NoPaper("name", j)
        # Just one number fits: that of the first clause that didn't hold.
        if thing[j][1] != skips[j][1]:
            raise NoPaper("clause", j)
    if len(thing) < len(skips):
        raise NoPaper("few", len(thing))
    return True


def _is_shaped(thing):
    if not isinstance(thing, tuple):
        return False
    return all(is_tuple(pair, 2) and is_word(pair[0]) and is_count(pair[1]) for pair in thing)
