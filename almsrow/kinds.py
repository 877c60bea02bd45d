"""Of any thing: whether it is a number, a word, a literal, rules, a type."""


def is_number(thing):
    """True of an int that is no truth."""
    return isinstance(thing, int) and not isinstance(thing, bool)


def is_word(thing):
    """True of a text of one to eight small letters."""
    if not isinstance(thing, str) or len(thing) < 1 or len(thing) > 8:
        return False
    return all("a" <= sign <= "z" for sign in thing)


def is_literal(thing):
    """True of a literal of one of the five sorts."""
    if not isinstance(thing, tuple) or len(thing) < 2:
        return False
    if thing[0] == "age":
        return len(thing) == 3 and _is_span(thing[1], thing[2])
    if len(thing) != 2:
        return False
    if thing[0] == "town" or thing[0] == "out":
        return _is_words(thing[1])
    if thing[0] == "kin" or thing[0] == "far":
        return is_count(thing[1])
    return False


def is_rules(thing):
    """True of a tuple, perhaps of none, of clauses."""
    return isinstance(thing, tuple) and all(_is_clause(part) for part in thing)


def is_type(thing):
    """True of a town, an age and ties."""
    if not isinstance(thing, tuple) or len(thing) != 3:
        return False
    town, age, ties = thing
    return is_word(town) and is_count(age) and (ties is None or is_count(ties))


def is_count(thing):
    """True of a number from 0 on."""
    return is_from(thing, 0)


def is_from(thing, least):
    """True of a number from the least on."""
    return is_number(thing) and thing >= least


def is_tuple(thing, many):
    """True of a tuple of just so many things."""
    return isinstance(thing, tuple) and len(thing) == many


def is_rising(things):
    """True where each thing is greater than the one ahead; all are of one kind."""
    return all(things[k - 1] < things[k] for k in range(1, len(things)))


def _is_clause(thing):
    if not isinstance(thing, tuple) or len(thing) == 0:
        return False
    return all(is_literal(part) for part in thing)


def _is_span(start, end):
    if not is_count(start):
        return False
    return end is None or (is_number(end) and end > start)


def _is_words(thing):
    if not isinstance(thing, tuple) or len(thing) == 0:
        return False
    return all(is_word(part) for part in thing) and is_rising(thing)
