import copy
import unittest

from almsrow.errors import NoName
from almsrow.forests import elders, is_forest, kin_of
from tests.common import NEVER, ODD, at_place, deep, maker, places_in, put_at
from tests.slow import slow_ties

# Two trees and one alone: ann, her children bet and cis, bet's dot, dot's eve; fay and her gil; hob.
FOREST = (("ann", ""), ("fay", ""), ("bet", "ann"), ("cis", "ann"), ("dot", "bet"), ("gil", "fay"), ("eve", "dot"),
          ("hob", ""))
NAMES = tuple(name for name, _ in FOREST)
GREAT = 10 ** 59
NOBODY = ("nobody", "", "Ann", "ann ", "-", "x" * 4000)

FORESTS = (
    (), (("ann", ""),), FOREST, (("abcdefgh", ""), ("a", "abcdefgh")), (("ann", ""), ("bet", "")),
    tuple((name, "") for name in NAMES),
)
NO_FORESTS = (
    [], [("ann", "")], (["ann", ""],), ("ann", ""), (("ann",),), (("ann", "", ""),), (("ann", None),), (("ann", 0),),
    (("ann", False),), (("", ""),), (("Ann", ""),), (("ninesigns", ""),), ((None, ""),), ((1, ""),), (("ann", "ann"),),
    (("ann", "bet"),), (("bet", "ann"), ("ann", "")), (("ann", ""), ("ann", "")),
    (("ann", ""), ("bet", "ann"), ("ann", "bet")),
    (("ann", ""), ("bet", "cis")), (("ann", ""), ("bet", ("ann",))), (("ann", ""), ("bet", ["ann"])),
    (("ann", ""), None),
    (("ann", ""), ((("bet",), ""))), (("ann", ""), (["bet"], "ann")), (("ann", ""), ("bet", "-")), (("ann", ""), ()),
)


def some_forest(rng, many):
    """A forest of so many names, each with some parent ahead or none."""
    names = ["".join(rng.choice("abc") for _ in range(4)) for _ in range(9 * many)]
    names = list(dict.fromkeys(names))[:many]
    return tuple((name, rng.choice([""] + names[:k])) for k, name in enumerate(names))


class TestIsForest(unittest.TestCase):
    def tell(self, truth, things):
        for thing in things:
            self.assertIs(is_forest(thing), truth, repr(thing)[:200])

    def test_forests(self):
        self.tell(True, FORESTS)

    def test_things_that_are_none(self):
        self.tell(False, NO_FORESTS)
        self.tell(False, [thing for thing in ODD if thing != ()])
        self.tell(False, (deep(30), deep(29), ["x" * 4000]))

    def test_of_however_many_pairs(self):
        letters = "abcdefghij"
        names = [a + b + c for a in letters for b in letters for c in letters]
        chain = tuple((name, names[k - 1] if k else "") for k, name in enumerate(names))
        self.tell(True, (chain, chain[:17], tuple((name, "") for name in names)))
        self.tell(False, (chain + (("aaa", ""),), chain[1:], chain + (("zzz", "zzz"),), chain[::-1]))

    def test_other_kinds_at_any_depth(self):
        for way in places_in(FOREST):
            for never in NEVER:
                # () is a forest, "" is no parent's name.
                if (way or never != ()) and not (never == "" and len(way) == 2 and way[1] == 1):
                    self.tell(False, (put_at(FOREST, way, never),))
            if isinstance(at_place(FOREST, way), tuple):
                self.tell(False, (put_at(FOREST, way, list(at_place(FOREST, way))),))

    def test_nothing_is_changed(self):
        things = [[("ann", "")], (["ann", ""],), ([["ann"], [""]],)]
        before = copy.deepcopy(things)
        for thing in things:
            is_forest(thing)
        self.assertEqual(things, before)


class TestElders(unittest.TestCase):
    def test_by_hand(self):
        told = {
            "ann": ("ann",), "bet": ("bet", "ann"), "cis": ("cis", "ann"), "dot": ("dot", "bet", "ann"),
            "eve": ("eve", "dot", "bet", "ann"), "fay": ("fay",), "gil": ("gil", "fay"), "hob": ("hob",),
        }
        self.assertEqual({name: elders(FOREST, name) for name in NAMES}, told)
        self.assertIs(type(elders(FOREST, "eve")), tuple)

    def test_a_chain(self):
        letters = "abcdefghijklmnop"
        chain = tuple((name, letters[k - 1] if k else "") for k, name in enumerate(letters))
        for k, name in enumerate(letters):
            self.assertEqual(elders(chain, name), tuple(letters[k::-1]))

    def test_refused(self):
        for forest in ((), FOREST):
            for name in NOBODY:
                with self.assertRaises(NoName) as caught:
                    elders(forest, name)
                self.assertEqual(caught.exception.name, name)


class TestKin(unittest.TestCase):
    def test_by_hand(self):
        self.assertEqual(kin_of(FOREST, "dot", 0), ("dot",))
        self.assertEqual(kin_of(FOREST, "dot", 1), ("bet", "dot", "eve"))
        self.assertEqual(kin_of(FOREST, "dot", 2), ("ann", "bet", "dot", "eve"))
        self.assertEqual(kin_of(FOREST, "dot", 3), ("ann", "bet", "cis", "dot", "eve"))
        self.assertEqual(kin_of(FOREST, "cis", 2), ("ann", "bet", "cis"))
        self.assertEqual(kin_of(FOREST, "hob", 5), ("hob",))
        self.assertEqual(kin_of(FOREST, "fay", 1), ("fay", "gil"))
        self.assertIs(type(kin_of(FOREST, "fay", 1)), tuple)

    def test_by_numbers_below_and_very_great_ones(self):
        for s in (-1, -2, -GREAT):
            for name in NAMES:
                self.assertEqual(kin_of(FOREST, name, s), ())
        for s in (4, 16, GREAT):
            self.assertEqual(kin_of(FOREST, "eve", s), ("ann", "bet", "cis", "dot", "eve"))
            self.assertEqual(kin_of(FOREST, "gil", s), ("fay", "gil"))

    def test_names_rise_however_they_stand(self):
        forest = (("zoe", ""), ("b", "zoe"), ("a", "zoe"), ("ab", "zoe"), ("c", "a"))
        self.assertEqual(kin_of(forest, "zoe", 9), ("a", "ab", "b", "c", "zoe"))

    def test_as_told(self):
        rng = maker(30)
        for _ in range(40):
            forest = some_forest(rng, rng.randint(1, 16))
            names = sorted(name for name, _ in forest)
            for name in names:
                far = {other: slow_ties(forest, name, other) for other in names}
                for s in range(-1, 8):
                    near = [other for other in names if far[other] is not None and far[other] <= s]
                    self.assertEqual(kin_of(forest, name, s), tuple(near))
                    self.assertLessEqual(set(near), set(kin_of(forest, name, s + 1)))

    def test_refused_ahead_of_all_else(self):
        for s in (0, 3, -1, GREAT):
            for name in NOBODY:
                with self.assertRaises(NoName) as caught:
                    kin_of(FOREST, name, s)
                self.assertEqual(caught.exception.name, name)
