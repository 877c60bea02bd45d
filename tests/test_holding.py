import unittest

from almsrow.holding import broken, clause_holds, literal_holds
from tests.common import holds, maker, meets, some_literal, some_rules, telling_types


class TestLiterals(unittest.TestCase):
    def tell(self, literal, who, truth):
        self.assertIs(literal_holds(literal, who), truth, (literal, who))

    def test_towns(self):
        for town, truth in (("ely", True), ("york", True), ("bath", False), ("el", False)):
            self.tell(("town", ("ely", "york")), (town, 5, None), truth)
            self.tell(("out", ("ely", "york")), (town, 5, None), not truth)

    def test_ages_at_the_ends(self):
        for age, truth in ((0, False), (4, False), (5, True), (6, True), (7, False), (99, False)):
            self.tell(("age", 5, 7), ("ely", age, None), truth)
        for age, truth in ((4, False), (5, True), (10 ** 40, True)):
            self.tell(("age", 5, None), ("ely", age, None), truth)
        for age in (0, 1, 10 ** 59):
            self.tell(("age", 0, None), ("ely", age, None), True)

    def test_ties_at_s_and_behind_and_none(self):
        for ties, truth in ((0, True), (2, True), (3, True), (4, False), (None, False)):
            self.tell(("kin", 3), ("ely", 0, ties), truth)
            self.tell(("far", 3), ("ely", 0, ties), not truth)
        for ties, truth in ((0, True), (1, False), (None, False)):
            self.tell(("kin", 0), ("ely", 0, ties), truth)
            self.tell(("far", 0), ("ely", 0, ties), not truth)

    def test_as_told_of_all_sorts(self):
        rng = maker(1)
        for _ in range(200):
            literal = some_literal(rng)
            for who in telling_types((((literal,),))):
                self.tell(literal, who, holds(literal, who))


class TestClausesAndRules(unittest.TestCase):
    def test_one_literal_is_enough(self):
        clause = (("town", ("ely",)), ("kin", 1))
        self.assertIs(clause_holds(clause, ("ely", 0, 2)), True)
        self.assertIs(clause_holds(clause, ("bath", 0, 1)), True)
        self.assertIs(clause_holds(clause, ("ely", 0, 0)), True)
        self.assertIs(clause_holds(clause, ("bath", 0, 2)), False)
        self.assertIs(clause_holds(clause[:1], ("bath", 0, 1)), False)

    def test_the_first_clause_that_does_not_hold(self):
        rules = ((("age", 60, None),), (("town", ("ely",)), ("kin", 0)), (("far", 5),))
        self.assertEqual(broken(rules, ("ely", 59, None)), 0)
        self.assertEqual(broken(rules, ("bath", 59, 3)), 0)
        self.assertEqual(broken(rules, ("bath", 60, 3)), 1)
        self.assertEqual(broken(rules, ("bath", 60, 0)), 2)
        self.assertIsNone(broken(rules, ("ely", 60, 6)))
        self.assertIsNone(broken(rules, ("ely", 60, None)))

    def test_rules_of_none_are_met_by_all(self):
        for who in (("ely", 0, None), ("z", 10 ** 20, 4)):
            self.assertIsNone(broken((), who))

    def test_number_is_no_truth(self):
        self.assertIs(type(broken(((("kin", 0),),), ("ely", 0, 1))), int)

    def test_as_told_of_many(self):
        rng = maker(2)
        for _ in range(150):
            rules = some_rules(rng, 4, 3)
            for who in telling_types(rules)[::3]:
                told = broken(rules, who)
                self.assertEqual(told is None, meets(rules, who))
                if told is not None:
                    self.assertTrue(meets(rules[:told], who))
                    self.assertFalse(meets(rules[told:told + 1], who))
