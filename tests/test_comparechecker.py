import copy
import unittest

from almsrow.choosing import contrary
from almsrow.comparechecker import lets_within
from almsrow.comparing import within
from almsrow.kinds import is_type
from tests.common import ODD, case_fault, deep, is_within, maker, meets, put_at, refusal, shape_fault, some_rules, spoilt

EVERY = ("age", 0, None)
OLD, ELY, NEAR = ("age", 60, None), ("town", ("ely",)), ("kin", 2)

ONE = ((OLD,), (ELY, NEAR))
OTHER = ((("age", 50, None), ELY), (EVERY, NEAR), (NEAR, ("town", ("ely", "york"))))
# Against the first clause come below 50 (clause 2) and out of ely (3), against the last far (2) and out (3).
FIRST = ("by", 0, (("by", 2, (("age",),)),))
LAST = ("by", 1, (("by", 3, (("town",),)), ("by", 2, (("kin",),))))
YES = ("yes", (FIRST, None, LAST))

APART = ((OLD,), (("age", 0, 70),))
NO = ("no", ("ely", 70, None))


def fault(one, other, thing):
    """The word and the place by which a thing is no paper of the two, or None."""
    if type(thing) is not tuple or len(thing) != 2 or thing[0] not in ("yes", "no"):
        return ("shape", -1)
    if thing[0] == "no":
        if not is_type(thing[1]):
            return ("shape", -1)
        if not meets(one, thing[1]):
            return ("one", -1)
        return ("other", -1) if meets(other, thing[1]) else None
    if type(thing[1]) is not tuple:
        return ("shape", -1)
    for i, paper in enumerate(thing[1]):
        if paper is not None and shape_fault(paper) is not None:
            return ("shape", (i,) + shape_fault(paper))
    if len(thing[1]) != len(other):
        return ("many", -1)
    for i, paper in enumerate(thing[1]):
        if (paper is None) != (EVERY in other[i]):
            return ("none", (i,))
        if paper is not None:
            due = case_fault(one + tuple(contrary(literal) for literal in other[i]), paper)
            if due:
                return (due[0], (i,) + due[1])
    return None


class TestLetsWithin(unittest.TestCase):
    def refuse(self, thing, word, at, one=ONE, other=OTHER):
        self.assertEqual(refusal(lets_within, one, other, thing), (word, at), thing)

    def test_papers_show_their_truth(self):
        self.assertIs(lets_within(ONE, OTHER, YES), True)
        self.assertIs(lets_within(ONE, APART, NO), False)
        self.assertIs(lets_within(ONE, (), ("yes", ())), True)
        self.assertIs(lets_within((), (), ("yes", ())), True)
        self.assertIs(lets_within((), ((OLD,),), ("no", ("x", 59, None))), False)
        self.assertIs(lets_within(ONE, ((EVERY,),), ("yes", (None,))), True)

    def test_other_cases_and_other_types(self):
        first = ("by", 1, (("by", 3, (("town",),)), ("by", 2, (("by", 0, (("age",),)),))))
        self.assertIs(lets_within(ONE, OTHER, ("yes", (first, None, LAST))), True)
        for who in (("ely", 70, 9), ("york", 99, 2), ("ely", 10 ** 40, None)):
            self.assertIs(lets_within(ONE, ((("age", 0, 70),),), ("no", who)), False)

    def test_other_kinds_of_things(self):
        things = (deep(30), list(YES), YES[::-1], YES + ((),), YES[:1], ("yes", list(YES[1])), ("no", YES[1]),
                  ("no", None), ("no", list(NO[1])), ("no", ("bath", True, None)), ("no", ("bath", 70, -1)), (True, ()),
                  ("Yes", ()), (["yes"], ()), (("no",), NO[1]), ("yes", None), ("yes", "abc"))
        for thing in ODD + things:
            self.refuse(thing, "shape", -1)
        # A TYPE is a tuple, too, so that here the first thing in it goes.
        self.refuse(("yes", NO[1]), "shape", (0,))

    def test_shapes_within_yes(self):
        for thing in ODD:
            if thing is not None:
                self.refuse(("yes", (thing, None, LAST)), "shape", (0,))
                self.refuse(("yes", (FIRST, thing, LAST)), "shape", (1,))
                self.refuse(("yes", (FIRST, None, put_at(LAST, (2, 1), thing))), "shape", (2, 1))
            # None stands for none only where a whole thing stands.
            self.refuse(("yes", (put_at(FIRST, (2, 0, 2, 0), thing), None, LAST)), "shape", (0, 0, 0))

    def test_shape_goes_ahead_of_all_else(self):
        self.refuse(("yes", (None, None, None, ("by", 0, (7,)))), "shape", (3, 0))
        self.refuse(("yes", (("by", 99, (("kin",), ("by", 1, (("kin",), 0)))), 5)), "shape", (0, 1, 1))

    def test_too_few_and_too_many(self):
        self.refuse(("yes", ()), "many", -1)
        self.refuse(("yes", (FIRST, None)), "many", -1)
        self.refuse(("yes", (FIRST, None, LAST, None)), "many", -1)
        self.refuse(("yes", (None, FIRST)), "many", -1)
        self.refuse(("yes", (None,)), "many", -1, ONE, ())

    def test_none_where_none_is_not_due(self):
        self.refuse(("yes", (None, None, LAST)), "none", (0,))
        self.refuse(("yes", (FIRST, FIRST, LAST)), "none", (1,))
        self.refuse(("yes", (FIRST, None, None)), "none", (2,))
        self.refuse(("yes", (("age",),)), "none", (0,), ONE, ((EVERY,),))
        self.refuse(("yes", (("age",),)), "none", (0,), ONE, ((OLD, EVERY),))

    def test_thing_by_thing(self):
        self.refuse(("yes", (("by", 9, ()), FIRST, None)), "by", (0,))
        self.refuse(("yes", (FIRST, ("by", 9, ()), None)), "none", (1,))
        self.refuse(("yes", (FIRST, None, ("by", -1, ()))), "by", (2,))
        self.refuse(("yes", (FIRST, None, ("by", 1, LAST[2][:1]))), "parts", (2,))
        self.refuse(("yes", (FIRST, None, ("by", 1, LAST[2][::-1]))), "kin", (2, 0, 0))
        self.refuse(("yes", (LAST, None, FIRST)), "kin", (0, 1, 0))

    def test_cases_are_of_the_turned_rules(self):
        self.refuse(("yes", (("by", 4, (("age",),)), None, LAST)), "by", (0,))
        self.refuse(("yes", (put_at(FIRST, (2, 0, 1), 3), None, LAST)), "age", (0, 0, 0))
        self.refuse(("yes", (("by", 0, (("town",),)), None, LAST)), "town", (0, 0))
        self.refuse(("yes", (("kin",), None, LAST)), "kin", (0,))

    def test_an_age_with_both_ends(self):
        one, other = ((("age", 20, 30),),), ((("age", 10, 40),),)
        cases = ("by", 0, (("by", 1, (("age",), ("age",))),))
        self.assertIs(lets_within(one, other, ("yes", (cases,))), True)
        self.refuse(("yes", (("by", 0, (("by", 1, (("age",),)),)),)), "parts", (0, 0), one, other)
        # The lesser ages stand first: those below 20 clash with 25 to 30, those from 28 on do not.
        one, other = ((("age", 25, 30),),), ((("age", 20, 28),),)
        self.refuse(("yes", (cases,)), "age", (0, 0, 1), one, other)

    def test_true_for_a_one(self):
        self.refuse(("yes", (FIRST, None, put_at(LAST, (1,), True))), "shape", (2,))
        self.refuse(("no", ("bath", 70, True)), "shape", -1, ONE, APART)

    def test_types_that_show_nothing(self):
        self.refuse(("no", ("bath", 59, 0)), "one", -1, ONE, APART)
        self.refuse(("no", ("bath", 70, 3)), "one", -1, ONE, APART)
        self.refuse(("no", ("ely", 69, 3)), "other", -1, ONE, APART)
        self.refuse(("no", ("ely", 69, 3)), "other", -1, ONE, ())
        # Both words are due: the one goes first.
        self.refuse(("no", ("bath", 0, 0)), "one", -1, ONE, ())

    def test_no_is_let_by_of_one_that_meets_just_the_one(self):
        self.assertIs(lets_within(ONE, APART, ("no", ("ely", 71, None))), False)
        self.assertIs(lets_within(ONE, APART, ("no", ("york", 10 ** 30, 2))), False)

    def test_papers_told_and_papers_spoilt(self):
        rng = maker(25)
        words = {}
        for _ in range(400):
            one, other = some_rules(rng, 4, 2), some_rules(rng, 3, 2)
            paper = within(one, other)
            self.assertIs(lets_within(one, other, paper), is_within(one, other))
            for _ in range(6):
                bad = spoilt(rng, paper)
                due = fault(one, other, bad)
                if due is None:
                    self.assertIs(lets_within(one, other, bad), bad[0] == "yes")
                else:
                    self.refuse(bad, *due, one, other)
                    words[due[0]] = words.get(due[0], 0) + 1
            self.assertEqual(fault(other, one, paper), self.told(other, one, paper))
        everything = {"shape", "many", "none", "by", "parts", "town", "age", "kin", "one", "other"}
        self.assertEqual(set(words), everything)

    def told(self, one, other, paper):
        if fault(one, other, paper) is None:
            self.assertIs(lets_within(one, other, paper), paper[0] == "yes")
            return None
        return refusal(lets_within, one, other, paper)

    def test_nothing_is_changed_nor_remembered(self):
        things = [YES, ["yes", [FIRST, None, LAST]], ("yes", (FIRST, None, ["by", 1, [7]])), ("no", ["bath", 1, None])]
        before = copy.deepcopy(things)
        for _ in range(2):
            self.assertIs(lets_within(ONE, OTHER, things[0]), True)
            self.refuse(things[1], "shape", -1)
            self.refuse(things[2], "shape", (2,))
            self.refuse(things[3], "shape", -1)
        self.assertEqual(things, before)
