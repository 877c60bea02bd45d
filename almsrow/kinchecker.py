"""The checker of kin papers."""

from almsrow.errors import NoPaper
from almsrow.forests import elders
from almsrow.kinds import is_tuple


def lets_kin(forest, one, other, thing):
    """The ties that a kin paper of the two names shows; of any other thing NoPaper."""
    own = elders(forest, one)
    others = elders(forest, other)
    if not is_tuple(thing, 2) or not isinstance(thing[0], tuple) or not isinstance(thing[1], tuple):
        raise NoPaper("shape", -1)
    _need_up("one", own, thing[0])
    _need_up("other", others, thing[1])
    return _shown(own, others, thing[0], thing[1])


def _need_up(word, rising, told):
    """Refuses what is no beginning, of one name at least, of the row of elders."""
    if len(told) == 0:
        raise NoPaper(word, 0)
    for k in range(len(told)):
        if k >= len(rising) or told[k] != rising[k]:
            raise NoPaper(word, k)


def _shown(own, others, first, second):
    """What the two rows show by their ends."""
    shared = [name for name in first if name in second]
    if shared == [first[-1]] and first[-1] == second[-1]:
        return len(first) + len(second) - 2
    if not shared and len(first) == len(own) and len(second) == len(others):
        return None
    raise NoPaper("end", -1)
