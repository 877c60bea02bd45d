"""Rules made of rules: some of their clauses, or further ones against a clause."""

from almsrow.choosing import contrary


def picked(rules, numbers):
    """The rules of just the clauses of these numbers."""
    return tuple([rules[number] for number in numbers])


def all_but(rules, place):
    """The rules without the clause at that place."""
    return rules[:place] + rules[place + 1:]


def turned(rules, clause):
    """The rules turned against the clause; None where they can't be."""
    further = []
    for literal in clause:
        against = contrary(literal)
        if against is None:
            return None
        further.append(against)
    return rules + tuple(further)
