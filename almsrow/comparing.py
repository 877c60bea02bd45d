"""Rules within rules."""

from almsrow.meeting import met
from almsrow.picking import turned


def within(one, other):
    """A paper of whether the one rules are within the other."""
    papers = []
    for clause in other:
        against = turned(one, clause)
        if against is None:
            papers.append(None)
        else:
            word, told = met(against)
            if word == "met":
                return ("no", told)
            papers.append(told)
    return ("yes", tuple(papers))
