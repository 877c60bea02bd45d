import unittest

from almsrow.errors import NoName
from almsrow.forests import elders, is_forest, kin_of
from almsrow.kinchecker import lets_kin
from almsrow.ties import kin_paper, ties
from tests.common import maker
from tests.slow import slow_ties
from tests.test_forests import FOREST, NAMES, NOBODY, some_forest


def shuffled(rng, forest):
    """The forest in another order, each parent ahead."""
    left, out = list(forest), []
    while left:
        names = [name for name, _ in out]
        pair = rng.choice([pair for pair in left if pair[1] in names + [""]])
        left.remove(pair)
        out.append(pair)
    return tuple(out)


class TestTies(unittest.TestCase):
    def test_by_hand(self):
        for one, other, many in (
                ("ann", "ann", 0), ("eve", "eve", 0), ("bet", "ann", 1), ("ann", "bet", 1), ("bet", "cis", 2),
                ("dot", "cis", 3), ("eve", "cis", 4), ("cis", "eve", 4), ("eve", "ann", 3), ("eve", "bet", 2),
                ("gil", "fay", 1), ("hob", "hob", 0), ("hob", "ann", None), ("gil", "eve", None), ("fay", "ann", None)):
            self.assertEqual(ties(FOREST, one, other), many, (one, other))

    def test_through_the_nearest(self):
        # eve and fay are of dot: two ties, though ann is an elder of both.
        forest = (("ann", ""), ("dot", "ann"), ("eve", "dot"), ("fay", "dot"), ("gil", "fay"))
        self.assertEqual(ties(forest, "eve", "fay"), 2)
        self.assertEqual(ties(forest, "eve", "gil"), 3)
        self.assertEqual(kin_paper(forest, "gil", "eve"), (("gil", "fay", "dot"), ("eve", "dot")))

    def test_as_told(self):
        rng = maker(31)
        for _ in range(40):
            forest = some_forest(rng, rng.randint(1, 16))
            for one, _ in forest:
                for other, _ in forest:
                    self.assertEqual(ties(forest, one, other), slow_ties(forest, one, other))


class TestKinPaper(unittest.TestCase):
    def test_by_hand(self):
        for one, other, paper in (
                ("ann", "ann", (("ann",), ("ann",))), ("eve", "eve", (("eve",), ("eve",))),
                ("bet", "ann", (("bet", "ann"), ("ann",))), ("ann", "dot", (("ann",), ("dot", "bet", "ann"))),
                ("bet", "cis", (("bet", "ann"), ("cis", "ann"))), ("eve", "bet", (("eve", "dot", "bet"), ("bet",))),
                ("eve", "cis", (("eve", "dot", "bet", "ann"), ("cis", "ann"))),
                ("gil", "dot", (("gil", "fay"), ("dot", "bet", "ann"))), ("hob", "fay", (("hob",), ("fay",)))):
            told = kin_paper(FOREST, one, other)
            self.assertEqual(told, paper)
            self.assertEqual([type(part) for part in (told,) + told], [tuple] * 3)

    def test_is_let_by_and_shows_the_ties(self):
        rng = maker(32)
        for _ in range(40):
            forest = some_forest(rng, rng.randint(1, 16))
            for one, _ in forest:
                for other, _ in forest:
                    paper = kin_paper(forest, one, other)
                    self.assertEqual(lets_kin(forest, one, other, paper), slow_ties(forest, one, other))
                    self.assertEqual(kin_paper(forest, other, one), paper[::-1])


class TestRefused(unittest.TestCase):
    def test_the_one_ahead_of_the_other(self):
        for call in (ties, kin_paper):
            for forest in (FOREST, ()):
                for name in NOBODY:
                    for one, other in ((name, "ann"), (name, "neither"), (name, name)):
                        with self.assertRaises(NoName) as caught:
                            call(forest, one, other)
                        self.assertEqual(caught.exception.name, one)
            for name in NOBODY:
                with self.assertRaises(NoName) as caught:
                    call(FOREST, "ann", name)
                self.assertEqual(caught.exception.name, name)


class TestAlike(unittest.TestCase):
    def test_either_way_about_and_by_a_third(self):
        for one in NAMES:
            for other in NAMES:
                self.assertEqual(ties(FOREST, one, other), ties(FOREST, other, one))
                for third in NAMES:
                    way = (ties(FOREST, one, third), ties(FOREST, third, other))
                    if None not in way:
                        self.assertLessEqual(ties(FOREST, one, other), sum(way))

    def test_a_forest_in_another_order(self):
        rng = maker(33)
        for _ in range(20):
            forest = some_forest(rng, 12)
            other = shuffled(rng, forest)
            self.assertIs(is_forest(other), True)
            for name, _ in forest:
                self.assertEqual(elders(forest, name), elders(other, name))
                self.assertEqual(kin_of(forest, name, 3), kin_of(other, name, 3))
                for second, _ in forest:
                    self.assertEqual(kin_paper(forest, name, second), kin_paper(other, name, second))

    def test_pairs_more_behind(self):
        rng = maker(34)
        for _ in range(20):
            forest = some_forest(rng, 14)
            ahead = forest[:9]
            for name, _ in ahead:
                self.assertEqual(elders(forest, name), elders(ahead, name))
                self.assertLessEqual(set(kin_of(ahead, name, 2)), set(kin_of(forest, name, 2)))
                for second, _ in ahead:
                    self.assertEqual(ties(forest, name, second), ties(ahead, name, second))
                    self.assertEqual(kin_paper(forest, name, second), kin_paper(ahead, name, second))
