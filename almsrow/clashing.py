"""Clauses that clash, without any one of which the others do not."""

from almsrow.meeting import met
from almsrow.picking import all_but, picked


def least_clash(rules):
    """A clash paper of rules that no type meets; None of others."""
    if met(rules)[0] == "met":
        return None
    numbers = _least_numbers(rules)
    some = picked(rules, numbers)
    types = [met(all_but(some, i))[1] for i in range(len(some))]
    return (numbers, met(some)[1], tuple(types))


def _least_numbers(rules):
    numbers = tuple(range(len(rules)))
    # A clause without which the many do not clash is needed by the fewer, too,
    # so that one time through is enough.
    for k in range(len(rules)):
        fewer = tuple([number for number in numbers if number != k])
        if met(picked(rules, fewer))[0] == "cases":
            numbers = fewer
    return numbers
