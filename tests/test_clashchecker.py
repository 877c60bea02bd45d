import copy
import unittest

from almsrow.clashchecker import lets_clash
from almsrow.clashing import least_clash
from tests.common import (
    ODD, case_fault, clashing_rules, deep, maker, meets, parts_of, put_at, refusal, shape_fault, spoilt
)
from almsrow.kinds import is_type

OLD, YOUNG = ("age", 60, None), ("age", 0, 50)
ELY, BATH = ("town", ("ely",)), ("town", ("bath",))

RULES = ((("kin", 9),), (OLD, ELY), (YOUNG, ELY), (BATH,), (("far", 3),))
CASES = ("by", 0, (("by", 1, (("age",), ("by", 2, (("town",),)))), ("by", 2, (("town",),))))
TYPES = (("bath", 49, None), ("bath", 60, 3), ("ely", 55, 0))
PAPER = ((1, 2, 3), CASES, TYPES)


def is_shaped(thing):
    if type(thing) is not tuple or len(thing) != 3 or type(thing[0]) is not tuple or type(thing[2]) is not tuple:
        return False
    if not all(type(k) is int for k in thing[0]) or list(thing[0]) != sorted(set(thing[0])):
        return False
    return all(is_type(who) for who in thing[2])


def clash_fault(rules, thing):
    """The word and the place by which a thing is no clash paper, or None."""
    if not is_shaped(thing):
        return ("shape", -1)
    numbers, cases, types = thing
    if shape_fault(cases) is not None:
        return ("shape", shape_fault(cases))
    for i, k in enumerate(numbers):
        if k not in range(len(rules)):
            return ("number", i)
    some = tuple(rules[k] for k in numbers)
    if case_fault(some, cases):
        return case_fault(some, cases)
    if len(types) != len(numbers):
        return ("types", -1)
    for i, who in enumerate(types):
        if not meets(some[:i] + some[i + 1:], who):
            return ("meets", i)
    return None


class TestLetsClash(unittest.TestCase):
    def refuse(self, thing, word, at, rules=RULES):
        self.assertEqual(refusal(lets_clash, rules, thing), (word, at), thing)

    def test_numbers_of_a_paper_are_told(self):
        self.assertEqual(lets_clash(RULES, PAPER), (1, 2, 3))
        again = lets_clash((RULES[1], RULES[2], RULES[3]), ((0, 1, 2),) + PAPER[1:])
        self.assertEqual(again, (0, 1, 2))
        self.assertIs(type(again), tuple)

    def test_any_cases_and_any_types_that_do(self):
        turned = ("by", 2, (("by", 0, (("by", 1, (("age",), ("town",))), ("town",))),))
        self.assertEqual(lets_clash(RULES, ((1, 2, 3), turned, TYPES)), (1, 2, 3))
        others = (("bath", 0, 0), ("bath", 10 ** 9, None), ("ely", 10, None))
        self.assertEqual(lets_clash(RULES, ((1, 2, 3), CASES, others)), (1, 2, 3))

    def test_other_kinds_of_things(self):
        for thing in ODD + (deep(30), PAPER[:2], PAPER + ((),), list(PAPER), PAPER[::-1]):
            self.refuse(thing, "shape", -1)
        for numbers in (None, 1, [1, 2, 3], (1, 3, 2), (1, 1, 2), (3, 2, 1), (True, 2, 3), (1, 2, "3"), "123", (1, (2,))):
            self.refuse((numbers,) + PAPER[1:], "shape", -1)
        for types in (None, list(TYPES), TYPES[0], TYPES[:2] + (None,), (("bath", True, None),) + TYPES[1:],
                      TYPES[:2] + (("ely", -1, None),), TYPES[:2] + (["ely", 5, None],), "abc"):
            self.refuse((PAPER[0], CASES, types), "shape", -1)
        for cases in ODD:
            self.refuse((PAPER[0], cases, TYPES), "shape", ())
        for thing, way in parts_of(CASES):
            self.refuse((PAPER[0], self.spoil_part(way), TYPES), "shape", way)

    def spoil_part(self, way):
        deeper = tuple(step for i in way for step in (2, i))
        return put_at(CASES, deeper, ("by", True, ()))

    def test_shapes_go_in_their_order_and_ahead_of_all_else(self):
        self.refuse(((7, 8), None, (None,)), "shape", -1)
        self.refuse(((9, 7), None, ()), "shape", -1)
        self.refuse(((7, 9), ("by", 9, (None,)), ()), "shape", (0,))

    def test_numbers_of_no_clause(self):
        self.refuse(((1, 2, 5), CASES, TYPES), "number", 2)
        self.refuse(((-1, 2, 5), CASES, TYPES), "number", 0)
        self.refuse(((1, 10 ** 59), ("age",), ()), "number", 1)
        self.refuse(((-2, -1), ("by", 8, ()), ()), "number", 0)
        self.refuse(((0,), ("age",), ()), "number", 0, ())

    def test_cases_are_of_the_picked_rules(self):
        self.refuse((PAPER[0], ("by", 3, (("age",),)), TYPES), "by", ())
        self.refuse((PAPER[0], ("by", -1, (("age",),)), TYPES), "by", ())
        self.refuse(((1, 2), CASES, TYPES[:2]), "by", (0, 1))
        self.refuse(((1, 3), CASES, TYPES[:2]), "parts", (0,))
        self.refuse((PAPER[0], ("by", 0, (CASES[2][0],)), TYPES), "parts", ())
        self.refuse((PAPER[0], ("by", 0, CASES[2][::-1]), TYPES), "town", (0, 0))
        self.refuse((PAPER[0], ("kin",), TYPES), "kin", ())
        self.refuse((PAPER[0], put_at(CASES, (2, 1, 2, 0), ("age",)), TYPES), "age", (1, 0))
        self.refuse(((), ("town",), ()), "town", ())
        self.refuse(((), ("by", 0, ()), ()), "by", ())
        self.refuse(((0,), ("by", 0, (("kin",),)), ()), "kin", (0,))

    def test_too_few_and_too_many_types(self):
        self.refuse((PAPER[0], CASES, ()), "types", -1)
        self.refuse((PAPER[0], CASES, TYPES[:2]), "types", -1)
        self.refuse((PAPER[0], CASES, TYPES + TYPES[:1]), "types", -1)
        self.refuse((PAPER[0], CASES, (("ely", 0, 0),)), "types", -1)

    def test_types_that_do_not_meet_all_but_theirs(self):
        self.refuse((PAPER[0], CASES, TYPES[::-1]), "meets", 0)
        self.refuse((PAPER[0], CASES, TYPES[:2] + TYPES[:1]), "meets", 2)
        self.refuse((PAPER[0], CASES, (TYPES[0], ("bath", 50, 0), ("wells", 0, 0))), "meets", 1)
        # One that is met without two clauses is no use either.
        self.refuse((PAPER[0], CASES, TYPES[:2] + (("york", 60, None),)), "meets", 2)

    def test_a_clause_too_many_has_no_type(self):
        numbers = (0, 1, 2, 3)
        cases = ("by", 1, (("by", 2, (("age",), ("by", 3, (("town",),)))), ("by", 3, (("town",),))))
        types = (("bath", 0, None),) + TYPES[:2] + (("ely", 0, 0),)
        self.refuse((numbers, cases, types), "meets", 0)

    def test_papers_told_and_papers_spoilt(self):
        rng = maker(16)
        words = {}
        for rules in clashing_rules(rng, 120):
            paper = least_clash(rules)
            self.assertEqual(lets_clash(rules, paper), paper[0])
            for _ in range(12):
                bad = spoilt(rng, paper)
                due = clash_fault(rules, bad)
                if due is None:
                    self.assertEqual(lets_clash(rules, bad), bad[0])
                else:
                    self.refuse(bad, *due, rules)
                    words[due[0]] = words.get(due[0], 0) + 1
        self.assertLessEqual({"shape", "number", "types", "meets", "by", "parts", "town", "age", "kin"}, set(words))

    def test_nothing_is_changed_nor_remembered(self):
        things = [PAPER, ([1, 2, 3], CASES, TYPES), (PAPER[0], ["by", 0, []], TYPES), list(PAPER)]
        before = copy.deepcopy(things)
        for _ in range(2):
            self.assertEqual(lets_clash(RULES, things[0]), (1, 2, 3))
            self.refuse(things[1], "shape", -1)
            self.refuse(things[2], "shape", ())
            self.refuse(things[3], "shape", -1)
        self.assertEqual(things, before)
