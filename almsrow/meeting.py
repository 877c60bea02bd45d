"""Whether some type meets rules: the type, or cases that show that there is none."""

from almsrow.choosing import together, type_by
from almsrow.holding import clause_holds


def met(rules):
    """A pair: "met" and a type that meets the rules, or "cases" and cases of them."""
    return _search(rules, ())


def _search(rules, chosen):
    """As met, of the types by which the chosen literals hold."""
    clash = together(chosen)
    if clash is not None:
        return ("cases", (clash,))
    who = type_by(chosen)
    number = _tightest(rules, chosen, who)
    if number is None:
        return ("met", who)
    parts = []
    for literal in rules[number]:
        told = _search(rules, chosen + (literal,))
        if told[0] == "met":
            return told
        parts.append(told[1])
    return ("cases", ("by", number, tuple(parts)))


def _tightest(rules, chosen, who):
    """The clause that the type breaks and that leaves the fewest choices, or None."""
    # A clause that the type breaks was not chosen from yet, so that a way never
    # comes to one clause twice and the search ends; few choices keep cases small.
    number = None
    fewest = 0
    for k in range(len(rules)):
        if not clause_holds(rules[k], who):
            many = _many_left(rules[k], chosen)
            if number is None or many < fewest:
                number = k
                fewest = many
    return number


def _many_left(clause, chosen):
    return len([literal for literal in clause if together(chosen + (literal,)) is None])
