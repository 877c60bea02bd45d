import unittest

from almsrow.casechecker import lets_cases
from almsrow.choosing import contrary
from almsrow.kinds import is_type
from almsrow.meeting import met
from tests.common import can_meet, case_fault, clashing_rules, maker, meets, some_literal, some_rules


class TestMet(unittest.TestCase):
    def tell(self, rules, truth):
        told = met(rules)
        self.assertIs(type(told), tuple)
        self.assertEqual(len(told), 2)
        if truth:
            self.assertEqual(told[0], "met", rules)
            self.assertTrue(is_type(told[1]))
            self.assertTrue(meets(rules, told[1]), (rules, told))
        else:
            self.assertEqual(told[0], "cases", rules)
            self.assertIsNone(case_fault(rules, told[1]), (rules, told))
            self.assertIs(lets_cases(rules, told[1]), True)

    def test_none_and_one_clause_are_met(self):
        self.tell((), True)
        rng = maker(9)
        for _ in range(100):
            self.tell((tuple(some_literal(rng) for _ in range(rng.randint(1, 3))),), True)

    def test_plain_clashes_of_each_sort(self):
        self.tell(((("town", ("ely",)),), (("out", ("ely",)),)), False)
        self.tell(((("age", 0, 5),), (("age", 5, None),)), False)
        self.tell(((("kin", 3),), (("far", 3),)), False)
        self.tell(((("kin", 4),), (("far", 3),)), True)
        self.tell(((("age", 0, 6),), (("age", 5, None),)), True)
        self.tell(((("town", ("bath", "ely")),), (("out", ("ely",)),)), True)

    def test_one_type_of_few_that_is_hard_to_find(self):
        rules = (
            (("town", ("bath", "ely")), ("age", 0, 3)),
            (("out", ("bath",)), ("kin", 0)),
            (("out", ("ely",)), ("age", 7, 8)),
            (("age", 0, 7), ("far", 4)),
            (("kin", 5), ("town", ("york",))),
            (("far", 1), ("out", ("bath", "ely"))),
        )
        self.tell(rules, can_meet(rules))
        # Only one town, one age, one number of ties is left.
        narrow = (
            (("age", 5, None), ("kin", 0)), (("age", 0, 6), ("kin", 0)), (("far", 2),), (("kin", 3),),
            (("town", ("ely", "york")), ("age", 0, 5)), (("out", ("york",)), ("far", 3)),
        )
        self.tell(narrow, True)
        self.assertEqual(met(narrow)[1], ("ely", 5, 3))
        self.tell(narrow + ((("out", ("ely",)), ("age", 6, None)),), False)

    def test_several_clashes_in_one(self):
        rules = ((("kin", 1),), (("far", 1),), (("age", 0, 5),), (("age", 9, None),), (("town", ("ely",)),),
                 (("town", ("york",)),))
        self.tell(rules, False)
        self.tell(rules[1:2] + rules[3:4] + rules[5:], True)

    def test_as_told_of_many(self):
        rng = maker(10)
        seen = []
        for _ in range(800):
            rules = some_rules(rng, 6, 3)
            seen.append(can_meet(rules))
            self.tell(rules, seen[-1])
        self.assertIn(True, seen)
        self.assertIn(False, seen)

    def test_rules_with_contraries_behind_them(self):
        rng = maker(11)
        for _ in range(150):
            rules = some_rules(rng, 6, 3)
            for _ in range(2):
                against = [contrary(some_literal(rng)) for _ in range(3)]
                rules = rules + tuple(clause for clause in against if clause is not None)
            self.tell(rules, can_meet(rules))

    def test_nothing_is_remembered(self):
        rng = maker(12)
        many = clashing_rules(rng, 20) + [some_rules(rng, 6, 3) for _ in range(20)]
        first = {rules: met(rules) for rules in many}
        for _ in range(2):
            rng.shuffle(many)
            for rules in many:
                self.assertEqual(met(rules), first[rules])
