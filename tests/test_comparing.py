import unittest

from almsrow.choosing import contrary
from almsrow.comparechecker import lets_within
from almsrow.comparing import within
from almsrow.kinds import is_type
from almsrow.meeting import met
from tests.common import can_meet, case_fault, clashing_rules, is_within, maker, meets, some_literal, some_rules

EVERY = ("age", 0, None)
OLD, YOUNG = ("age", 60, None), ("age", 0, 60)
ELY, NEAR = ("town", ("ely",)), ("kin", 2)


def turned(rules, clause):
    """As point 20 says, for literals that have a contrary."""
    return rules + tuple(contrary(literal) for literal in clause)


class TestWithin(unittest.TestCase):
    def tell(self, one, other, truth):
        told = within(one, other)
        self.assertIs(type(told), tuple)
        self.assertEqual(len(told), 2)
        self.assertEqual(told[0], "yes" if truth else "no", (one, other))
        if truth:
            self.assertIs(type(told[1]), tuple)
            self.assertEqual(len(told[1]), len(other))
            for clause, paper in zip(other, told[1]):
                if EVERY in clause:
                    self.assertIsNone(paper)
                else:
                    self.assertIsNone(case_fault(turned(one, clause), paper))
        else:
            self.assertTrue(is_type(told[1]))
            self.assertTrue(meets(one, told[1]))
            self.assertFalse(meets(other, told[1]))
        self.assertIs(lets_within(one, other, told), truth)
        return told[1]

    def test_all_are_within_rules_of_none(self):
        for one in ((), ((OLD,),), ((OLD,), (YOUNG,))):
            self.assertEqual(self.tell(one, (), True), ())

    def test_rules_of_none_are_within_those_that_all_meet(self):
        self.tell((), ((OLD, YOUNG),), True)
        self.tell((), ((OLD,),), False)
        self.tell((), ((NEAR, ("far", 2)), (ELY, ("out", ("ely",)))), True)

    def test_what_can_not_be_turned(self):
        self.assertEqual(self.tell((), ((EVERY,),), True), (None,))
        self.assertEqual(self.tell(((OLD,),), ((EVERY,), (ELY, EVERY)), True), (None, None))
        papers = self.tell(((OLD,),), ((ELY, EVERY), (OLD, ELY)), True)
        self.assertIsNone(papers[0])
        self.assertIsNotNone(papers[1])
        self.tell(((EVERY,),), ((OLD,),), False)
        self.tell(((EVERY,),), ((EVERY,), (OLD,)), False)

    def test_an_age_with_both_ends_has_a_clause_of_two(self):
        one = ((("age", 20, 30),), (ELY,))
        self.tell(one, ((("age", 20, 30),),), True)
        self.tell(one, ((("age", 19, 31),),), True)
        self.tell(one, ((("age", 21, 30),),), False)
        self.tell(one, ((("age", 20, 29),),), False)
        self.tell(one, ((("age", 20, 29), ("kin", 4)),), False)

    def test_the_lesser_ages_come_first(self):
        # Told is of the rules turned as the document writes them: clause 1 is (0 to 20, 30 on).
        cases = within(((("age", 20, 30),),), ((("age", 20, 30),),))[1][0]
        self.assertIsNone(case_fault(((("age", 20, 30),), (("age", 0, 20), ("age", 30, None))), cases))

    def test_rules_are_within_themselves(self):
        rng = maker(17)
        for _ in range(100):
            rules = some_rules(rng, 5, 3)
            self.tell(rules, rules, True)

    def test_rules_that_none_meets_are_within_all(self):
        rng = maker(18)
        for one in clashing_rules(rng, 40):
            self.tell(one, some_rules(rng, 5, 3), True)
            self.tell(((OLD, ELY),), one, False)
            self.tell((), one, False)

    def test_a_clause_more_and_a_literal_more(self):
        rng = maker(19)
        for _ in range(100):
            rules = some_rules(rng, 4, 2)
            clause = tuple(some_literal(rng) for _ in range(2))
            self.tell(rules + (clause,), rules, True)
            self.tell((clause,) + rules, rules, True)
            wider = tuple(row + (some_literal(rng),) for row in rules)
            self.tell(rules, wider, True)

    def test_within_goes_through(self):
        rng = maker(20)
        many = [some_rules(rng, 2, 2) for _ in range(25)]
        word = {(a, b): within(a, b)[0] for a in many for b in many}
        through = 0
        for a in many:
            for b in many:
                for c in many:
                    if word[a, b] == "yes" and word[b, c] == "yes":
                        self.assertEqual(word[a, c], "yes")
                        through += len({a, b, c}) == 3
        self.assertGreater(through, 0)

    def test_as_told_of_many(self):
        rng = maker(21)
        seen = set()
        for _ in range(400):
            one, other = some_rules(rng, 5, 3), some_rules(rng, 3, 3)
            truth = is_within(one, other)
            self.tell(one, other, truth)
            seen.add((truth, can_meet(one), bool(other)))
        self.assertIn((True, True, True), seen)
        self.assertIn((False, True, True), seen)

    def test_literal_or_contrary(self):
        rng = maker(22)
        for _ in range(100):
            literal = some_literal(rng)
            against = contrary(literal)
            if against is None:
                self.tell((), ((literal,),), True)
            else:
                self.tell((), ((literal,) + against,), True)
                self.assertEqual(met(((literal,), against))[0], "cases")
                self.tell((against,), ((literal,),), False)

    def test_turned_rules_may_be_handed_in_again(self):
        rng = maker(23)
        for _ in range(40):
            one, other = some_rules(rng, 6, 3), some_rules(rng, 2, 3)
            for clause in other:
                if EVERY not in clause:
                    against = turned(one, clause)
                    self.tell(against, one, True)
                    self.tell(against, other, not can_meet(against))
                    self.tell(one, against, is_within(one, against))

    def test_nothing_is_remembered(self):
        rng = maker(24)
        many = [(some_rules(rng, 4, 3), some_rules(rng, 3, 3)) for _ in range(20)]
        first = [within(*two) for two in many]
        self.assertEqual([within(*two) for two in many[::-1]], first[::-1])
