"""Whether literals and clauses hold of a type, and which clause of rules doesn't."""


def literal_holds(literal, who):
    """True where the literal holds of the type."""
    town, age, ties = who
    word = literal[0]
    if word == "town":
        return town in literal[1]
    if word == "out":
        return town not in literal[1]
    if word == "age":
        return literal[1] <= age and (literal[2] is None or age < literal[2])
    near = ties is not None and ties <= literal[1]
    if word == "kin":
        return near
    return not near


def clause_holds(clause, who):
    """True where one of the clause's literals holds of the type."""
    return any(literal_holds(literal, who) for literal in clause)


def broken(rules, who):
    """The number of the first clause that doesn't hold of the type, or None."""
    for k in range(len(rules)):
        if not clause_holds(rules[k], who):
            return k
    return None
