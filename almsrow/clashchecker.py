"""The checker of clash papers."""

from almsrow.casechecker import need_cases, need_shape
from almsrow.errors import NoPaper
from almsrow.holding import broken
from almsrow.kinds import is_number, is_rising, is_type
from almsrow.picking import all_but, picked


def lets_clash(rules, thing):
    """The numbers of a clash paper of the rules; of any other thing NoPaper."""
    if not _is_shaped(thing):
        raise NoPaper("shape", -1)
    numbers, cases, types = thing
    need_shape(cases, ())
    _need_numbers(rules, numbers)
    some = picked(rules, numbers)
    need_cases(some, cases, ())
    _need_types(some, types)
    return numbers


def _is_shaped(thing):
    if not isinstance(thing, tuple) or len(thing) != 3:
        return False
    numbers, _, types = thing
    return _is_numbers(numbers) and _is_types(types)


def _is_numbers(thing):
    if not isinstance(thing, tuple):
        return False
    return all(is_number(part) for part in thing) and is_rising(thing)


def _is_types(thing):
    return isinstance(thing, tuple) and all(is_type(part) for part in thing)


def _need_numbers(rules, numbers):
    for i in range(len(numbers)):
        if numbers[i] < 0 or numbers[i] >= len(rules):
            raise NoPaper("number", i)


def _need_types(some, types):
    if len(types) != len(some):
        raise NoPaper("types", -1)
    for i in range(len(types)):
        if broken(all_but(some, i), types[i]) is not None:
            raise NoPaper("meets", i)
