"""What the tests share: slow oracles written apart from the program, and things made at hand."""

import random

from almsrow.errors import NoPaper

TOWNS = ("bath", "ely", "wells", "york")

# None of these is a part of anything that the program knows, wherever it stands.
NEVER = (True, False, -1, "", "Ely", "ninesigns", [], (), ["ely"], [("ely",)], ("ely", "ely"), (True,))

# Things of all sorts, none of them a paper, rules, a type or weights.
ODD = (
    None, True, False, 0, 1, -7, 10 ** 59, "", "ely", "by", "town", [], ["town"], [("town",)],
    ("town", "age"), (("town",),), ("by",), ("by", 0), ("by", True, ()), ("by", 0, []), ("by", "0", ()),
    ("by", None, ()), ("by", 0, (), ()), ["by", 0, ()], ("met", ("ely", 1, 1)), ("", ()), ("yes",),
    ("yes", []), ("no", ()), ("no", ("ely", -1, None)), ["yes", ()], ("towns",), ("far",), ("out",),
    (1, 2, 3, 4), ((), (), [])
)


def deep(depth):
    """A thing of so many tuples and lists within one another."""
    thing = None
    for k in range(depth):
        thing = (thing,) if k % 2 else [thing]
    return thing


def maker(seed):
    return random.Random(seed)


def refusal(call, *things):
    """The word and the place of the NoPaper by which the call is refused."""
    try:
        told = call(*things)
    except NoPaper as error:
        return (error.word, error.at)
    raise AssertionError("not refused, told: " + repr(told))


# Rules, by looking at every type that could make a difference.


def holds(literal, who):
    sort, rest = literal[0], literal[1:]
    if sort in ("town", "out"):
        return (who[0] in rest[0]) == (sort == "town")
    if sort == "age":
        end = float("inf") if rest[1] is None else rest[1]
        return rest[0] <= who[1] < end
    ties = float("inf") if who[2] is None else who[2]
    return (ties > rest[0]) == (sort == "far")


def meets(rules, who):
    return not [clause for clause in rules if not [one for one in clause if holds(one, who)]]


def literals_in(rules):
    return [literal for clause in rules for literal in clause]


def telling_towns(literals):
    words = {word for one in literals if one[0] in ("town", "out") for word in one[1]}
    return sorted(words) + ["nowhere"]


def telling_ages(literals):
    marks = {mark for one in literals if one[0] == "age" for mark in one[1:] if mark is not None}
    return sorted({0} | marks | {mark - 1 for mark in marks if mark})


def telling_ties(literals):
    marks = {one[1] for one in literals if one[0] in ("kin", "far")}
    return [None] + sorted({0} | marks | {mark + 1 for mark in marks})


def telling_types(*many):
    """Types such that any rules of these are told apart by some of them, if at all."""
    literals = [literal for rules in many for literal in literals_in(rules)]
    return [
        (town, age, ties)
        for town in telling_towns(literals)
        for age in telling_ages(literals)
        for ties in telling_ties(literals)
    ]


def can_meet(rules):
    return any(meets(rules, who) for who in telling_types(rules))


def is_within(one, other):
    return all(meets(other, who) for who in telling_types(one, other) if meets(one, who))


def clash_by(sort, literals):
    """Whether no one town, age or ties fits all the literals."""
    if sort == "town":
        some = [one for one in literals if one[0] in ("town", "out")]
        return not any(all(holds(one, (town, 0, 0)) for one in some) for town in telling_towns(some))
    if sort == "age":
        some = [one for one in literals if one[0] == "age"]
        return not any(all(holds(one, ("x", age, 0)) for one in some) for age in telling_ages(some))
    some = [one for one in literals if one[0] in ("kin", "far")]
    return not any(all(holds(one, ("x", 0, ties)) for one in some) for ties in telling_ties(some))


# Things made by a seed.


def some_literal(rng):
    sort = rng.choice(("town", "out", "age", "age", "kin", "far"))
    if sort in ("town", "out"):
        return (sort, tuple(sorted(rng.sample(TOWNS, rng.randint(1, 4)))))
    if sort == "age":
        start = rng.choice((0, 0, 3, 5, 8))
        return (sort, start, rng.choice((None, start + 1, start + 3)))
    return (sort, rng.randint(0, 3))


def some_rules(rng, clauses, literals):
    return tuple(
        tuple(some_literal(rng) for _ in range(rng.randint(1, literals)))
        for _ in range(rng.randint(0, clauses))
    )


def clashing_rules(rng, many):
    """So many rules that no type meets."""
    found = []
    while len(found) < many:
        rules = some_rules(rng, 6, 3)
        if not can_meet(rules):
            found.append(rules)
    return found


def some_cases(rng, rules, chosen=()):
    """Cases of rules that no type meets, clauses in any order, ends where they clash or later."""
    words = [word for word in ("town", "age", "kin") if clash_by(word, chosen)]
    if words and rng.random() < 0.7:
        return (rng.choice(words),)
    if len(chosen) > len(rules) + 2:
        return (words[0],) if words else cases_straight(rules, chosen, 0)
    k = rng.randrange(len(rules))
    return ("by", k, tuple(some_cases(rng, rules, chosen + (one,)) for one in rules[k]))


def cases_straight(rules, chosen, k):
    """Cases by the clauses in their order."""
    for word in ("town", "age", "kin"):
        if clash_by(word, chosen):
            return (word,)
    return ("by", k, tuple(cases_straight(rules, chosen + (one,), k + 1) for one in rules[k]))


def parts_of(thing, way=()):
    """All parts with their ways, a part ahead of its own."""
    yield (thing, way)
    if isinstance(thing, tuple) and len(thing) == 3 and isinstance(thing[2], tuple):
        for i, part in enumerate(thing[2]):
            yield from parts_of(part, way + (i,))


def places_in(thing, way=()):
    """The ways to all things within a thing, itself first."""
    yield way
    if isinstance(thing, tuple):
        for i, part in enumerate(thing):
            yield from places_in(part, way + (i,))


def at_place(thing, way):
    for i in way:
        thing = thing[i]
    return thing


def put_at(thing, way, new):
    """The thing with another one at that place."""
    if way == ():
        return new
    i = way[0]
    return thing[:i] + (put_at(thing[i], way[1:], new),) + thing[i + 1:]


def turned_about(thing):
    return thing[::-1] if isinstance(thing, (tuple, str)) else thing


def spoilt(rng, thing):
    """The thing with something in it out, twice, turned about or another."""
    way = rng.choice(list(places_in(thing)))
    old = at_place(thing, way)
    new = rng.choice((
        rng.choice(ODD), rng.choice(ODD), ("town",), ("age",), ("kin",), turned_about(old),
        rng.randint(-1, 7), old[1:] if isinstance(old, tuple) else old,
        old + old[-1:] if isinstance(old, tuple) else True,
        old + 1 if isinstance(old, int) else None,
    ))
    return put_at(thing, way, new)


# Papers, looked at part by part.


def has_kind(part):
    if type(part) is not tuple or not part or type(part[0]) is not str:
        return False
    if len(part) == 1:
        return part[0] in ("town", "age", "kin")
    return [part[0]] + [type(thing) for thing in part[1:]] == ["by", int, tuple]


def shape_fault(thing):
    """The way to the first part that is none of the four kinds, or None."""
    for part, way in parts_of(thing):
        if not has_kind(part):
            return way
    return None


def chosen_at(rules, thing, way):
    chosen = []
    for i in way:
        chosen.append(rules[thing[1]][i])
        thing = thing[2][i]
    return chosen


def case_fault(rules, thing):
    """The word and the way by which a thing is no cases of the rules, or None."""
    if shape_fault(thing) is not None:
        return ("shape", shape_fault(thing))
    for part, way in parts_of(thing):
        if len(part) == 1:
            if not clash_by(part[0], chosen_at(rules, thing, way)):
                return (part[0], way)
        elif part[1] not in range(len(rules)):
            return ("by", way)
        elif len(part[2]) != len(rules[part[1]]):
            return ("parts", way)
    return None
