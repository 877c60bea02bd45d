import unittest

from almsrow.choosing import contrary, together, type_by
from almsrow.kinds import is_literal, is_rules, is_type
from tests.common import clash_by, holds, maker, some_literal, telling_types

GREAT = 10 ** 59


class TestTogether(unittest.TestCase):
    def test_none_and_one_hold_together(self):
        self.assertIsNone(together(()))
        for literal in (("town", ("ely",)), ("out", ("ely",)), ("age", 3, 4), ("age", 0, None), ("kin", 0), ("far", 9)):
            self.assertIsNone(together((literal,)))
            self.assertIsNone(together((literal,) * 18))

    def test_towns(self):
        self.assertIsNone(together((("town", ("bath", "ely")), ("town", ("ely", "york")))))
        self.assertEqual(together((("town", ("bath", "ely")), ("town", ("york",)))), "town")
        self.assertEqual(together((("town", ("ely",)), ("out", ("ely",)))), "town")
        self.assertEqual(together((("out", ("ely",)), ("town", ("ely",)))), "town")
        self.assertIsNone(together((("out", ("ely",)), ("town", ("ely", "york")))))
        self.assertEqual(together((("out", ("ely",)), ("town", ("ely", "york")), ("out", ("bath", "york")))), "town")
        self.assertEqual(
            together((("town", ("a", "b")), ("town", ("b", "c")), ("town", ("a", "c")))), "town")

    def test_out_alone_always_do(self):
        letters = "abcdefghijklmnopqrstuvwxyz"
        some = tuple(("out", tuple(letters[k:k + 4])) for k in range(0, 26, 2))
        self.assertIsNone(together(some))
        self.assertTrue(all(holds(one, type_by(some)) for one in some))
        self.assertTrue(is_type(type_by(some)))

    def test_out_of_very_many_words(self):
        letters = "abcdefghijklmnopqrstuvwxyz"
        words = sorted(list(letters) + [a + b for a in letters for b in letters])
        some = (("out", tuple(words)),)
        who = type_by(some)
        self.assertTrue(is_type(who))
        self.assertNotIn(who[0], words)

    def test_ages_that_touch(self):
        self.assertEqual(together((("age", 3, 5), ("age", 5, None))), "age")
        self.assertEqual(together((("age", 5, None), ("age", 3, 5))), "age")
        self.assertIsNone(together((("age", 3, 6), ("age", 5, None))))
        self.assertEqual(type_by((("age", 3, 6), ("age", 5, None)))[1], 5)
        self.assertIsNone(together((("age", 3, None), ("age", GREAT, None))))
        self.assertEqual(together((("age", 3, GREAT), ("age", GREAT, None))), "age")
        self.assertEqual(together((("age", 0, 4), ("age", 2, 9), ("age", 4, 5))), "age")

    def test_kin_and_far(self):
        self.assertIsNone(together((("kin", 4), ("far", 3))))
        self.assertEqual(type_by((("kin", 4), ("far", 3)))[2], 4)
        self.assertEqual(together((("kin", 3), ("far", 3))), "kin")
        self.assertEqual(together((("far", 4), ("kin", 3))), "kin")
        self.assertEqual(together((("kin", 9), ("far", 0), ("kin", 2), ("far", 2))), "kin")
        self.assertIsNone(together((("kin", 0), ("kin", 7))))
        self.assertIsNone(together((("far", 0), ("far", GREAT))))

    def test_the_first_word_goes(self):
        town = (("town", ("ely",)), ("town", ("bath",)))
        age = (("age", 0, 5), ("age", 5, 9))
        kin = (("kin", 1), ("far", 1))
        self.assertEqual(together(kin + age + town), "town")
        self.assertEqual(together(kin + age), "age")
        self.assertEqual(together(kin + town), "town")
        self.assertEqual(together(kin), "kin")

    def test_as_told_of_many(self):
        rng = maker(3)
        for k in range(2000):
            literals = tuple(some_literal(rng) for _ in range(rng.choice((0, 1, 2, 3, 4, 18 if k % 20 == 0 else 5))))
            words = [word for word in ("town", "age", "kin") if clash_by(word, literals)]
            self.assertEqual(together(literals), words[0] if words else None, literals)
            who = type_by(literals)
            if words:
                self.assertIsNone(who)
            else:
                self.assertTrue(is_type(who), who)
                self.assertTrue(all(holds(one, who) for one in literals), (literals, who))
            self.assertEqual(together(literals), words[0] if words else None)


class TestContrary(unittest.TestCase):
    def test_what_has_none(self):
        self.assertIsNone(contrary(("age", 0, None)))

    def test_each_other_one_is_a_clause_of_just_the_others(self):
        rng = maker(4)
        edges = [("age", 0, 1), ("age", 1, None), ("age", 1, 2), ("kin", 0), ("far", 0), ("age", GREAT, GREAT + 1)]
        for literal in edges + [some_literal(rng) for _ in range(300)]:
            if literal == ("age", 0, None):
                continue
            told = contrary(literal)
            self.assertTrue(is_rules((told,)), told)
            for who in telling_types((told, (literal,))):
                against = any(holds(one, who) for one in told)
                self.assertEqual(against, not holds(literal, who), (literal, told, who))

    def test_of_a_contrary_again(self):
        for literal in (("town", ("ely",)), ("out", ("bath", "ely")), ("kin", 3), ("far", 0), ("age", 4, None)):
            (against,) = contrary(literal)
            self.assertTrue(is_literal(against))
            for who in telling_types(((against,), (literal,))):
                (back,) = contrary(against)
                self.assertEqual(holds(back, who), holds(literal, who))
