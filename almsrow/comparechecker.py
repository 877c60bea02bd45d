"""The checker of papers of rules within rules."""

from almsrow.casechecker import need_cases, need_shape
from almsrow.errors import NoPaper
from almsrow.holding import broken
from almsrow.kinds import is_type
from almsrow.picking import turned


def lets_within(one, other, thing):
    """What the paper shows: True by "yes", False by "no"; of any other thing NoPaper."""
    if not isinstance(thing, tuple) or len(thing) != 2:
        raise NoPaper("shape", -1)
    word, told = thing
    if word == "yes" and isinstance(told, tuple):
        _need_papers(one, other, told)
        return True
    if word == "no" and is_type(told):
        _need_apart(one, other, told)
        return False
    raise NoPaper("shape", -1)


def _need_papers(one, other, papers):
    for i in range(len(papers)):
        if papers[i] is not None:
            need_shape(papers[i], (i,))
    if len(papers) != len(other):
        raise NoPaper("many", -1)
    for i in range(len(papers)):
        against = turned(one, other[i])
        if (papers[i] is None) != (against is None):
            raise NoPaper("none", (i,))
        if against is not None:
            need_cases(against, papers[i], (i,))


def _need_apart(one, other, who):
    if broken(one, who) is not None:
        raise NoPaper("one", -1)
    if broken(other, who) is None:
        raise NoPaper("other", -1)
