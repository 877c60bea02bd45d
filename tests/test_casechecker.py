import copy
import unittest

from almsrow.casechecker import lets_cases
from almsrow.meeting import met
from tests.common import (
    ODD, case_fault, cases_straight, clashing_rules, deep, maker, refusal, some_cases, some_rules, spoilt
)

OLD, YOUNG = ("age", 60, None), ("age", 0, 50)
ELY, BATH = ("town", ("ely",)), ("town", ("bath",))
NEAR, FAR = ("kin", 1), ("far", 1)

# No type meets these: old, in ely or near, young or in bath, far.
RULES = ((OLD,), (ELY, NEAR), (YOUNG, BATH), (FAR,))
CASES = ("by", 2, (
    ("by", 0, (("age",),)),
    ("by", 1, (("town",), ("by", 3, (("kin",),)))),
))


class TestLetBy(unittest.TestCase):
    def test_cases_are_let_by(self):
        self.assertIs(lets_cases(RULES, CASES), True)

    def test_other_orders_of_clauses(self):
        thing = ("by", 1, (
            ("by", 2, (("by", 0, (("age",),)), ("town",))),
            ("by", 3, (("kin",),)),
        ))
        self.assertIs(lets_cases(RULES, thing), True)

    def test_ends_later_than_where_they_clash(self):
        thing = ("by", 2, (
            ("by", 0, (("by", 1, (("age",), ("by", 3, (("age",),)))),)),
            ("by", 1, (("by", 3, (("by", 0, (("town",),)),)), ("by", 3, (("kin",),)))),
        ))
        self.assertIs(lets_cases(RULES, thing), True)

    def test_a_clause_several_times_on_one_way(self):
        thing = ("by", 0, (("by", 0, (("by", 0, (CASES,)),)),))
        self.assertIs(lets_cases(RULES, thing), True)
        # Chosen once more a clause may itself bring a clash.
        rules = ((ELY, BATH), (ELY, OLD), (BATH, YOUNG), (("out", ("bath", "ely")),))
        again = ("by", 0, (("by", 0, (("by", 3, (("town",),)), ("town",))), ("by", 3, (("town",),))))
        self.assertIs(lets_cases(rules, again), True)

    def test_where_several_sorts_clash_any_word_goes(self):
        rules = ((OLD,), (YOUNG,), (NEAR,), (FAR,), (ELY,), (BATH,))
        for word in ("age", "kin", "town"):
            thing = (word,)
            for k in range(5, -1, -1):
                thing = ("by", k, (thing,))
            self.assertIs(lets_cases(rules, thing), True)

    def test_cases_told_are_let_by(self):
        rng = maker(5)
        for rules in clashing_rules(rng, 60):
            self.assertIs(lets_cases(rules, met(rules)[1]), True)
            self.assertIs(lets_cases(rules, cases_straight(rules, (), 0)), True)

    def test_cases_written_by_anybody_are_let_by(self):
        rng = maker(6)
        for rules in [rules for rules in clashing_rules(rng, 150) if len(rules) < 5]:
            thing = some_cases(rng, rules)
            self.assertIsNone(case_fault(rules, thing))
            self.assertIs(lets_cases(rules, thing), True)


class TestRefused(unittest.TestCase):
    def refuse(self, rules, thing, word, way):
        self.assertEqual(refusal(lets_cases, rules, thing), (word, way), thing)

    def test_other_kinds_of_things(self):
        for thing in ODD:
            self.refuse(RULES, thing, "shape", ())
            self.refuse((), thing, "shape", ())
            self.refuse(RULES, ("by", 2, (CASES[2][0], thing)), "shape", (1,))
            self.refuse(RULES, ("by", 2, (("by", 0, (thing,)), CASES[2][1])), "shape", (0, 0))

    def test_deep_things(self):
        for depth in (1, 2, 29, 30):
            self.refuse(RULES, deep(depth), "shape", ())
        thing = ("age",)
        for _ in range(14):
            thing = ("by", 0, (thing,))
        self.refuse(RULES, thing, "age", (0,) * 14)
        self.refuse(RULES, ("by", 0, (thing, [thing])), "shape", (1,))

    def test_nothing_of_rules_of_none(self):
        for word in ("town", "age", "kin"):
            self.refuse((), (word,), word, ())
        self.refuse((), ("by", 0, ()), "by", ())

    def test_shape_goes_ahead_of_all_else(self):
        self.refuse(RULES, ("by", 9, (("town",), ("age",), ("kin", 1))), "shape", (2,))
        self.refuse(RULES, ("by", -1, (None,)), "shape", (0,))
        self.refuse(RULES, ("by", 2, (("age",), ("by", 1, (("town",), ["kin"])))), "shape", (1, 1))

    def test_the_first_of_several_shapes(self):
        self.refuse(RULES, ("by", 2, (("by", 0, (("ages",),)), None)), "shape", (0, 0))
        self.refuse(RULES, ("by", 2, (("by", 0, [None]), None)), "shape", (0,))
        self.refuse(RULES, ("by", True, (None,)), "shape", ())
        self.refuse(RULES, ("by", 2, (("by", 0, (("age",), ("by", 1, (7,)))), 8)), "shape", (0, 1, 0))

    def test_no_such_clause(self):
        for k in (-1, -4, 4, 5, 10 ** 59, -10 ** 59):
            self.refuse(RULES, ("by", k, ()), "by", ())
            self.refuse(RULES, ("by", 0, (("by", k, (("age",),)),)), "by", (0,))

    def test_too_few_and_too_many_parts(self):
        self.refuse(RULES, ("by", 0, ()), "parts", ())
        self.refuse(RULES, ("by", 0, (("age",), ("age",))), "parts", ())
        self.refuse(RULES, CASES[:2] + (CASES[2][:1],), "parts", ())
        self.refuse(RULES, CASES[:2] + (CASES[2] + (("age",),),), "parts", ())
        self.refuse(RULES, ("by", 2, (CASES[2][0], ("by", 1, (("town",),)))), "parts", (1,))

    def test_a_true_for_a_one(self):
        self.refuse(RULES, ("by", 2, (CASES[2][0], ("by", True, CASES[2][1][2]))), "shape", (1,))
        self.refuse(RULES, ("by", 2, (("by", False, (("age",),)), CASES[2][1])), "shape", (0,))

    def test_ends_where_nothing_clashes(self):
        for word in ("town", "age", "kin"):
            self.refuse(RULES, (word,), word, ())
            self.refuse(RULES, ("by", 0, ((word,),)), word, (0,))
        self.refuse(RULES, ("by", 2, (("by", 0, (("town",),)), CASES[2][1])), "town", (0, 0))
        self.refuse(RULES, ("by", 2, (("by", 0, (("kin",),)), CASES[2][1])), "kin", (0, 0))
        self.refuse(RULES, ("by", 2, (CASES[2][0], ("by", 1, (("age",), ("town",))))), "age", (1, 0))

    def test_parts_turned_about(self):
        self.refuse(RULES, CASES[:2] + (CASES[2][::-1],), "town", (0, 0))
        self.refuse(RULES, ("by", 1, CASES[2]), "age", (0, 0))

    def test_a_literal_of_one_part_is_not_chosen_in_the_next(self):
        rules = ((ELY, BATH), (("town", ("york",)), OLD))
        self.refuse(rules, ("by", 0, (("by", 1, (("town",), ("town",))), ("town",))), "town", (0, 1))
        self.refuse(rules, ("by", 0, (("age",), ("town",))), "age", (0,))
        self.refuse(((ELY, BATH), (OLD,)), ("by", 0, (("by", 1, (("town",),)), ("town",))), "town", (0, 0))
        self.refuse(((OLD, ELY), (BATH,)), ("by", 0, (("by", 0, (("age",), ("town",))), ("age",))), "age", (0, 0))

    def test_in_order_each_part_whole_ahead_of_the_next(self):
        thing = ("by", 2, (("by", 0, (("by", 1, (("age",), ("kin",))),)), ("by", 9, ())))
        self.refuse(RULES, thing, "kin", (0, 0, 1))
        self.refuse(RULES, ("by", 2, (("by", 9, ()), ("by", 0, ()))), "by", (0,))
        self.refuse(RULES, ("by", 2, (("by", 0, ()), ("by", 9, ()))), "parts", (0,))
        self.refuse(RULES, ("by", 9, (("by", 0, ()),)), "by", ())
        self.refuse(RULES, ("by", 1, (("by", 9, ()),)), "parts", ())

    def test_each_papers_spoilt_part(self):
        rng = maker(7)
        words = {}
        for rules in clashing_rules(rng, 250):
            thing = met(rules)[1]
            for _ in range(6):
                bad = spoilt(rng, thing)
                due = case_fault(rules, bad)
                if due is None:
                    self.assertIs(lets_cases(rules, bad), True)
                else:
                    self.refuse(rules, bad, *due)
                    words[due[0]] = words.get(due[0], 0) + 1
        self.assertEqual(sorted(words), ["age", "by", "kin", "parts", "shape", "town"])

    def test_cases_of_other_rules(self):
        rng = maker(8)
        for rules in clashing_rules(rng, 100):
            thing = met(rules)[1]
            other = some_rules(rng, 5, 3)
            due = case_fault(other, thing)
            if due is None:
                self.assertIs(lets_cases(other, thing), True)
            else:
                self.refuse(other, thing, *due)

    def test_nothing_is_changed_nor_remembered(self):
        things = [CASES, ("by", 2, ([1, [2]], ("age",))), ["by", 0, [("age",)]], ("by", 0, [("age",)])]
        before = copy.deepcopy(things)
        for _ in range(2):
            self.assertIs(lets_cases(RULES, things[0]), True)
            self.refuse(RULES, things[1], "shape", (0,))
            self.refuse(RULES, things[2], "shape", ())
            self.refuse(RULES, things[3], "shape", ())
        self.assertEqual(things, before)
