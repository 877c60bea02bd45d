import copy
import unittest

from almsrow.errors import NoName
from almsrow.kinchecker import lets_kin
from almsrow.ties import kin_paper
from tests.common import ODD, deep, maker, refusal, spoilt
from tests.slow import slow_ties
from tests.test_forests import FOREST, NOBODY, some_forest


def row_fault(parents, name, row):
    """The place of the first thing that is none of a row up from the name, or None."""
    due = name
    for k, thing in enumerate(row):
        if due == "" or type(thing) is not str or thing != due:
            return k
        due = parents[due]
    return None if row else 0


def kin_fault(forest, one, other, thing):
    """The word and the place by which a thing is no kin paper, or None."""
    if type(thing) is not tuple or [type(part) for part in thing] != [tuple, tuple]:
        return ("shape", -1)
    parents = dict(forest)
    for word, name, row in (("one", one, thing[0]), ("other", other, thing[1])):
        if row_fault(parents, name, row) is not None:
            return (word, row_fault(parents, name, row))
    both = set(thing[0]) & set(thing[1])
    meets = both == {thing[0][-1]} == {thing[1][-1]}
    apart = not both and parents[thing[0][-1]] == parents[thing[1][-1]] == ""
    return None if meets or apart else ("end", -1)


def cut(rng, paper):
    """The paper with some of its rows cut by their ends."""
    return tuple(row[:-1] if rng.random() < 0.5 else row for row in paper)


class TestLetsKin(unittest.TestCase):
    def refuse(self, one, other, thing, word, at):
        self.assertEqual(refusal(lets_kin, FOREST, one, other, thing), (word, at), thing)

    def test_what_right_papers_show(self):
        for one, other, paper, shown in (
                ("ann", "ann", (("ann",), ("ann",)), 0), ("bet", "ann", (("bet", "ann"), ("ann",)), 1),
                ("ann", "bet", (("ann",), ("bet", "ann")), 1), ("bet", "cis", (("bet", "ann"), ("cis", "ann")), 2),
                ("eve", "cis", (("eve", "dot", "bet", "ann"), ("cis", "ann")), 4),
                ("dot", "gil", (("dot", "bet", "ann"), ("gil", "fay")), None),
                ("hob", "ann", (("hob",), ("ann",)), None)):
            self.assertEqual(lets_kin(FOREST, one, other, paper), shown)

    def test_shape(self):
        for thing in ODD + (deep(30), (("bet",),), (("bet",), ("ann",), ()), [("bet", "ann"), ("cis", "ann")],
                            (["bet", "ann"], ("cis", "ann")), (("bet", "ann"), ["cis", "ann"]), ("bet", ("cis", "ann")),
                            (("bet", "ann"), "cis"), (None, None)):
            self.refuse("bet", "cis", thing, "shape", -1)
        self.refuse("bet", "cis", ((), "shape"), "shape", -1)

    def test_the_row_up_from_the_one(self):
        good = ("cis", "ann")
        for row, k in (((), 0), (("ann",), 0), (("cis", "ann"), 0), ((None,), 0), ((["bet"], "ann"), 0),
                       (("bet", "fay"), 1), (("bet", ""), 1), (("bet", True), 1), (("bet", "bet"), 1),
                       (("bet", "ann", "ann"), 2), (("bet", "ann", ""), 2), (("bet", "ann", None, "x"), 2)):
            self.refuse("bet", "cis", (row, good), "one", k)
            # The one goes ahead of the other.
            self.refuse("bet", "cis", (row, ()), "one", k)
            self.refuse("bet", "cis", (row, (None, None)), "one", k)

    def test_the_row_up_from_the_other(self):
        for row, k in (((), 0), (("ann",), 0), (("bet", "ann"), 0), (("cis", "cis"), 1), (("cis", "ann", "ann"), 2),
                       (("cis", ("ann",)), 1), (("cis", "ann", 0), 2)):
            self.refuse("bet", "cis", (("bet", "ann"), row), "other", k)
            # Even where the first row ends too early.
            self.refuse("bet", "cis", (("bet",), row), "other", k)

    def test_ends(self):
        for one, other, paper in (
                ("bet", "cis", (("bet",), ("cis",))), ("bet", "cis", (("bet", "ann"), ("cis",))),
                ("bet", "cis", (("bet",), ("cis", "ann"))), ("eve", "bet",
                                                             (("eve", "dot", "bet", "ann"), ("bet", "ann"))),
                ("eve", "bet", (("eve", "dot", "bet", "ann"), ("bet",))), ("eve", "bet", (("eve", "dot"), ("bet",))),
                ("eve", "bet", (("eve", "dot", "bet"), ("bet", "ann"))), ("ann", "eve", (("ann",), ("eve",))),
                ("bet", "bet", (("bet", "ann"), ("bet", "ann"))), ("bet", "bet", (("bet", "ann"), ("bet",))),
                ("dot", "gil", (("dot", "bet"), ("gil", "fay"))), ("dot", "gil", (("dot", "bet", "ann"), ("gil",)))):
            self.refuse(one, other, paper, "end", -1)

    def test_names_go_ahead_of_all_else(self):
        for name in NOBODY:
            for thing in (None, ((), ()), (("bet", "ann"), ("cis", "ann"))):
                for one, other, told in ((name, "cis", name), (name, "neither", name), ("bet", name, name)):
                    with self.assertRaises(NoName) as caught:
                        lets_kin(FOREST, one, other, thing)
                    self.assertEqual(caught.exception.name, told)

    def test_papers_told_and_papers_spoilt(self):
        rng = maker(35)
        words = {}
        for _ in range(25):
            forest = some_forest(rng, rng.randint(2, 16))
            names = [name for name, _ in forest]
            for _ in range(40):
                one, other = rng.choice(names), rng.choice(names)
                paper = kin_paper(forest, one, other)
                bad = rng.choice((spoilt(rng, paper), spoilt(rng, spoilt(rng, paper)), cut(rng, paper)))
                due = kin_fault(forest, one, other, bad)
                if due is None:
                    self.assertEqual(lets_kin(forest, one, other, bad), slow_ties(forest, one, other))
                else:
                    self.assertEqual(refusal(lets_kin, forest, one, other, bad), due)
                    words[due[0]] = words.get(due[0], 0) + 1
        self.assertEqual({"shape", "one", "other", "end"}, set(words))

    def test_just_one_paper_is_let_by(self):
        rows = [(), ("ann",), ("bet",), ("bet", "ann"), ("cis",), ("cis", "ann"), ("hob",), ("bet", "ann", "hob")]
        for one in ("ann", "bet", "cis", "hob"):
            for other in ("ann", "bet", "cis", "hob"):
                for thing in [(first, second) for first in rows for second in rows]:
                    if thing == kin_paper(FOREST, one, other):
                        lets_kin(FOREST, one, other, thing)
                    else:
                        refusal(lets_kin, FOREST, one, other, thing)

    def test_nothing_is_changed_nor_remembered(self):
        things = [[["bet", "ann"], ["cis"]], (("bet", ["ann"]), ("cis",)), (("bet", "ann"), ("cis", "ann"))]
        before = copy.deepcopy(things)
        for _ in range(2):
            self.refuse("bet", "cis", things[0], "shape", -1)
            self.refuse("bet", "cis", things[1], "one", 1)
            self.assertEqual(lets_kin(FOREST, "bet", "cis", things[2]), 2)
        self.assertEqual(things, before)
