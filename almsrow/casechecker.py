"""The checker of cases."""

from almsrow.choosing import together_by
from almsrow.errors import NoPaper
from almsrow.kinds import is_number

ENDS = (("town",), ("age",), ("kin",))


def lets_cases(rules, thing):
    """True of cases of the rules; of any other thing NoPaper."""
    need_shape(thing, ())
    need_cases(rules, thing, ())
    return True


def need_shape(thing, way):
    """Refuses the first part that is none of the four kinds; the whole is at the way."""
    if thing in ENDS:
        return
    if not _is_by(thing):
        raise NoPaper("shape", way)
    parts = thing[2]
    for i in range(len(parts)):
        need_shape(parts[i], way + (i,))


def need_cases(rules, thing, way):
    """Refuses what has the shape of cases but is none of the rules; the whole is at the way."""
    _need_part(rules, thing, (), way)


def _is_by(thing):
    if not isinstance(thing, tuple) or len(thing) != 3:
        return False
    return thing[0] == "by" and is_number(thing[1]) and isinstance(thing[2], tuple)


def _need_part(rules, thing, chosen, way):
    if thing in ENDS:
        if together_by(thing[0], chosen):
            raise NoPaper(thing[0], way)
        return
    _, number, parts = thing
    if number < 0 or number >= len(rules):
        raise NoPaper("by", way)
    clause = rules[number]
    if len(parts) != len(clause):
        raise NoPaper("parts", way)
    for i in range(len(parts)):
        _need_part(rules, parts[i], chosen + (clause[i],), way + (i,))
