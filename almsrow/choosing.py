"""Literals chosen together, a type by which they hold, and contraries."""

SORTS = ("town", "age", "kin")
LETTERS = "abcdefghijklmnopqrstuvwxyz"


def together(literals):
    """None, or the first of the three sorts by which the literals don't hold together."""
    for sort in SORTS:
        if not together_by(sort, literals):
            return sort
    return None


def together_by(sort, literals):
    """True where the literals hold together by that one sort."""
    if sort == "town":
        return _town_by(literals) is not None
    if sort == "age":
        least, end = _ages(literals)
        return end is None or least < end
    least, most = _ties(literals)
    return most is None or least <= most


def type_by(literals):
    """A type by which all the literals hold, or None."""
    if together(literals) is not None:
        return None
    age, _ = _ages(literals)
    least, most = _ties(literals)
    # Where nothing asks for kin, None serves each far literal.
    ties = None if most is None else least
    return (_town_by(literals), age, ties)


def contrary(literal):
    """The clause that holds where the literal doesn't, or None."""
    word = literal[0]
    if word == "town":
        return (("out", literal[1]),)
    if word == "out":
        return (("town", literal[1]),)
    if word == "kin":
        return (("far", literal[1]),)
    if word == "far":
        return (("kin", literal[1]),)
    return _other_ages(literal[1], literal[2])


def _other_ages(start, end):
    spans = []
    if start != 0:
        spans.append(("age", 0, start))
    if end is not None:
        spans.append(("age", end, None))
    if not spans:
        return None
    return tuple(spans)


def _town_by(literals):
    """A town by which each town and out literal holds, or None."""
    for literal in literals:
        if literal[0] == "town":
            return _first_allowed(literals, literal[1])
    # Some word more than those that are barred is always there.
    number = 0
    while not _allows(literals, _word_at(number)):
        number += 1
    return _word_at(number)


def _first_allowed(literals, towns):
    for town in towns:
        if _allows(literals, town):
            return town
    return None


def _allows(literals, town):
    for literal in literals:
        if literal[0] == "town" and town not in literal[1]:
            return False
        if literal[0] == "out" and town in literal[1]:
            return False
    return True


def _word_at(number):
    """The words in a row of their own: a to z, aa, ab and so on."""
    word = ""
    left = number + 1
    while left > 0:
        left -= 1
        word = LETTERS[left % 26] + word
        left //= 26
    return word


def _ages(literals):
    """The least age that the literals allow, and the end below which, None of no end."""
    least = 0
    end = None
    for literal in literals:
        if literal[0] == "age":
            least = max(least, literal[1])
            if literal[2] is not None and (end is None or literal[2] < end):
                end = literal[2]
    return least, end


def _ties(literals):
    """The least ties that are far enough, and the most that are near enough, None of no kin literal."""
    least = 0
    most = None
    for literal in literals:
        if literal[0] == "far":
            least = max(least, literal[1] + 1)
        if literal[0] == "kin" and (most is None or literal[1] < most):
            most = literal[1]
    return least, most
