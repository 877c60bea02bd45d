import unittest

from almsrow.clashchecker import lets_clash
from almsrow.clashing import least_clash
from almsrow.kinds import is_number, is_type
from tests.common import can_meet, case_fault, clashing_rules, maker, meets, some_rules

OLD, YOUNG = (("age", 60, None),), (("age", 0, 50),)
ELY, BATH = (("town", ("ely",)),), (("town", ("bath",)),)


class TestLeastClash(unittest.TestCase):
    def tell(self, rules):
        told = least_clash(rules)
        self.assertIs(type(told), tuple)
        numbers, cases, types = told
        self.assertIs(type(numbers), tuple)
        self.assertIs(type(types), tuple)
        self.assertTrue(all(is_number(k) and 0 <= k < len(rules) for k in numbers))
        self.assertEqual(list(numbers), sorted(set(numbers)))
        some = tuple(rules[k] for k in numbers)
        self.assertIsNone(case_fault(some, cases))
        self.assertEqual(len(types), len(numbers))
        for i, who in enumerate(types):
            self.assertTrue(is_type(who))
            self.assertTrue(meets(some[:i] + some[i + 1:], who), (rules, told))
            self.assertFalse(meets(some, who))
        self.assertEqual(lets_clash(rules, told), numbers)
        return numbers

    def test_none_of_rules_that_are_met(self):
        self.assertIsNone(least_clash(()))
        self.assertIsNone(least_clash((OLD,)))
        self.assertIsNone(least_clash((OLD, ELY, OLD)))
        rng = maker(13)
        for _ in range(200):
            rules = some_rules(rng, 5, 3)
            if can_meet(rules):
                self.assertIsNone(least_clash(rules))

    def test_the_clauses_that_clash_alone(self):
        self.assertEqual(self.tell((OLD, YOUNG)), (0, 1))
        self.assertEqual(self.tell((ELY, OLD, ELY + BATH, YOUNG, ELY)), (1, 3))
        self.assertEqual(self.tell((ELY, OLD, BATH)), (0, 2))
        self.assertEqual(self.tell((OLD + ELY, YOUNG + ELY, BATH)), (0, 1, 2))

    def test_a_clause_that_stands_twice(self):
        self.assertIn(self.tell((OLD, OLD, YOUNG)), ((0, 2), (1, 2)))

    def test_several_clashes_in_one(self):
        self.assertIn(self.tell((OLD, ELY, YOUNG, BATH)), ((0, 2), (1, 3)))
        three = (OLD + ELY, YOUNG + ELY, BATH)
        self.assertIn(self.tell(three + (OLD, YOUNG)), ((0, 1, 2), (3, 4), (0, 2, 4), (1, 2, 3)))

    def test_many(self):
        for rules in clashing_rules(maker(14), 150):
            self.tell(rules)

    def test_nothing_is_remembered(self):
        many = clashing_rules(maker(15), 15)
        first = [least_clash(rules) for rules in many]
        self.assertEqual([least_clash(rules) for rules in many[::-1]], first[::-1])
