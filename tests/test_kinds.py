import copy
import unittest

from almsrow.kinds import is_literal, is_number, is_rules, is_type, is_word
from tests.common import NEVER, ODD, at_place, deep, places_in, put_at

GREAT = 10 ** 59

LITERALS = (
    ("town", ("ely",)), ("town", ("a", "b", "zzzzzzzz")), ("out", ("ely",)), ("out", ("ely", "york")),
    ("age", 0, None), ("age", 0, 1), ("age", 7, 8), ("age", 60, None), ("age", 0, GREAT), ("age", GREAT, None),
    ("kin", 0), ("kin", 4), ("kin", GREAT), ("far", 0), ("far", 300),
    ("town", tuple(a + b for a in "abcde" for b in "uvwxyz")),
)
NO_LITERALS = (
    ("town",), ("town", ()), ("town", ["ely"]), ("town", "ely"), ("town", ("ely",), ()), ("town", ("york", "ely")),
    ("town", ("ely", "ely")), ("town", ("ely", 3)), ("town", ("ely", "Ely")), ("out", ()), ("out", ("b", "a")),
    ("age",), ("age", 3), ("age", 3, 3), ("age", 4, 3), ("age", -1, 3), ("age", None, 3), ("age", 0, 3, 4),
    ("age", True, 3), ("age", 0, True), ("age", False, None), ("age", 0, "5"), ("kin",), ("kin", -1), ("kin", None),
    ("kin", True), ("kin", 1, 2), ("far", -1), ("far", False), ("far", None), ("far", "1"), ("far", (1,)),
    ["kin", 1], ("near", 1), ("", 1), (None, 1), (1, 1), ("age", -2, -1), ("age", 0, -1), ("town", (True,)),
    ("Town", ("ely",)), (("town",), ("ely",)), (["age"], 0, 1), ("out", ("ely", None)), ("kin", [1]),
)
CLAUSES = tuple((literal,) for literal in LITERALS) + (LITERALS,)
RULES = ((),) + tuple((clause,) for clause in CLAUSES) + (CLAUSES,)
TYPES = (("ely", 0, None), ("a", 61, 0), ("zzzzzzzz", GREAT, GREAT), ("york", 1, 1))


class TestKinds(unittest.TestCase):
    def tell(self, call, truth, things):
        for thing in things:
            self.assertIs(call(thing), truth, repr(thing))

    def test_numbers(self):
        self.tell(is_number, True, (0, 1, -1, GREAT, -GREAT))
        self.tell(is_number, False, (True, False, None, "", "1", (), (1,), [1], [], "a"))

    def test_words(self):
        self.tell(is_word, True, ("a", "z", "ely", "abcdefgh", "zzzzzzzz"))
        self.tell(is_word, False, ("", "abcdefghi", "Ely", "a b", "a1", "ely ", "-", "`", "{", "a" * 4000))
        self.tell(is_word, False, (None, True, 1, (), ("a",), ["a"], ["a", "b"], ("ely",)))

    def test_literals(self):
        self.tell(is_literal, True, LITERALS)
        self.tell(is_literal, False, NO_LITERALS)

    def test_rules_of_any_size(self):
        self.tell(is_rules, True, RULES)
        self.tell(is_rules, True, (((("kin", 0),) * 30,) * 30,))
        self.tell(is_rules, False, [((literal,),) for literal in NO_LITERALS])
        self.tell(is_rules, False, [((("kin", 0), literal),) for literal in NO_LITERALS])
        self.tell(is_rules, False, (((),), [], [(("kin", 0),)], ([("kin", 0)],), (("kin", 0),), ((("kin", 0),), ())))

    def test_types(self):
        self.tell(is_type, True, TYPES)
        self.tell(is_type, False, (
            (), ("ely",), ("ely", 1), ("ely", 1, 1, 1), ["ely", 1, 1], ("Ely", 1, 1), ("", 1, 1), (None, 1, 1),
            ("ely", -1, 1), ("ely", None, 1), ("ely", True, 1), ("ely", 1, -1), ("ely", 1, True), ("ely", 1, False),
            ("ely", 1, "1"), ("ely", "1", None), (1, "ely", None), (("ely",), 1, None),
        ))

    def test_things_of_other_kinds_at_any_depth(self):
        for call, whole in ((is_literal, LITERALS), (is_rules, RULES), (is_type, TYPES)):
            for thing in whole:
                for way in places_in(thing):
                    for never in NEVER:
                        # RULES of none are RULES; behind a word no further word may stand.
                        if way or never != () or call is not is_rules:
                            self.assertIs(call(put_at(thing, way, never)), False, (thing, way, never))

    def test_lists_for_tuples_at_any_depth(self):
        for call, whole in ((is_literal, LITERALS), (is_rules, RULES), (is_type, TYPES)):
            for thing in whole:
                for way in places_in(thing):
                    part = at_place(thing, way)
                    if isinstance(part, tuple):
                        self.assertIs(call(put_at(thing, way, list(part))), False, (thing, way))

    def test_any_thing_and_nothing_changed(self):
        things = list(ODD) + [deep(30), deep(29), [deep(9)] * 50, ["x" * 4000], tuple(range(4990))]
        before = copy.deepcopy(things)
        for call in (is_literal, is_rules, is_type):
            self.tell(call, False, things)
        self.assertEqual(before, things)

    def test_one_kind_is_no_other(self):
        for thing in LITERALS + TYPES:
            self.assertIs(is_rules(thing), False)
        for thing in RULES + TYPES:
            self.assertIs(is_literal(thing), False)
        for thing in RULES:
            self.assertIs(is_type(thing), False)

    def test_age_is_a_word_and_may_be_a_town(self):
        for thing in (("age", 0, None), ("age", 3, 5)):
            self.assertIs(is_literal(thing), True)
            self.assertIs(is_type(thing), True)
        self.assertIs(is_type(("age", 5, 3)), True)
        self.assertIs(is_literal(("age", 5, 3)), False)
