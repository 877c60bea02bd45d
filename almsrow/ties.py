"""Ties of two names, and the paper of them."""

from almsrow.forests import elders, nearest_of


def ties(forest, one, other):
    """How many ties lead from the one to the other, None where they have no elder in common."""
    at = nearest_of(elders(forest, one), elders(forest, other))
    if at is None:
        return None
    return at[0] + at[1]


def kin_paper(forest, one, other):
    """The two rows up from the names that show their ties."""
    own = elders(forest, one)
    others = elders(forest, other)
    at = nearest_of(own, others)
    if at is None:
        return (own, others)
    return (own[:at[0] + 1], others[:at[1] + 1])
