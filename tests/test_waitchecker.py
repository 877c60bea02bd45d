import copy
import itertools
import unittest

from almsrow.cases import longest
from almsrow.errors import NoPaper
from almsrow.waitchecker import lets_wait
from tests.common import ODD, deep, maker, refusal, spoilt
from tests.test_cases import BY_HAND, CHAIN, RING, some_case, tight_case

CASE = ((4, ("ann", "bet")), (6, ("bet", "cis")), (6, ("ann",)), (9, ()), (2, ("cis", "dot")), (6, ("cis", "bet")))
# Rows 0, 1, 2, 5 are four of three names; row 4 goes too, ahead of its until.
STORY = ((2, "ann"), (4, "cis"), (0, "bet"), (1, None))
SET = (0, 1, 2, 5)
PAPER = (6, STORY, SET)
# Each row can have one.
FREE_CASE = ((3, ("ann", "bet")), (1, ("cis",)))


def is_day(thing):
    return type(thing) is int and 0 <= thing <= 99999


def is_name(thing):
    return type(thing) is str and thing.isascii() and thing.isalpha() and thing.islower() and len(thing) <= 8


def shape_fault(thing):
    if type(thing) is not tuple or len(thing) != 3 or type(thing[1]) is not tuple:
        return True
    day, story, some = thing
    for pair in story:
        if type(pair) is not tuple or len(pair) != 2 or type(pair[0]) is not int or pair[0] < 0:
            return True
        if pair[1] is not None and not is_name(pair[1]):
            return True
    if day is None or some is None:
        return day is not some
    if not is_day(day) or type(some) is not tuple or any(type(part) is not int or part < 0 for part in some):
        return True
    return list(some) != sorted(set(some))


def wait_fault(case, thing):
    """The word and the place by which a thing is no wait paper of the case, or None."""
    if shape_fault(thing):
        return ("shape", -1)
    day, story, some = thing
    left = dict(enumerate(case))
    had = []
    for k, (r, who) in enumerate(story):
        if r not in left:
            return ("row", k)
        until, ahead = left.pop(r)
        if day is not None and until > day:
            return ("late", k)
        if who != ([name for name in ahead if name not in had] + [None])[0]:
            return ("who", k)
        if who is None and not (day == until and k == len(story) - 1):
            return ("end", k)
        had.append(who)
    for r, (until, _) in left.items():
        if day is None or until < day:
            return ("lacks", r)
    if day is None:
        return None
    if None not in had:
        return ("last", -1)
    for k, r in enumerate(some):
        if r not in range(len(case)) or case[r][0] > day:
            return ("set", k)
    names = set().union(*[case[r][1] for r in some])
    return None if len(names) < len(some) else ("enough", -1)


class TestLetsWait(unittest.TestCase):
    def refuse(self, thing, word, at, case=CASE):
        self.assertEqual(refusal(lets_wait, case, thing), (word, at), thing)
        self.assertEqual(wait_fault(case, thing), (word, at))

    def test_papers(self):
        self.assertEqual(lets_wait(CASE, PAPER), 6)
        # Of one day, more than one order, and more than one set.
        self.assertEqual(lets_wait(CASE, (6, ((4, "cis"), (2, "ann"), (0, "bet"), (5, None)), SET)), 6)
        self.assertEqual(lets_wait(CASE, (6, ((2, "ann"), (0, "bet"), (4, "cis"), (1, None)), (0, 1, 2, 4, 5))), 6)
        self.assertIsNone(lets_wait((), (None, (), None)))
        self.assertIsNone(lets_wait(FREE_CASE, (None, ((0, "ann"), (1, "cis")), None)))
        self.assertIsNone(lets_wait(FREE_CASE, (None, ((1, "cis"), (0, "ann")), None)))
        self.assertEqual(lets_wait(((0, ()),), (0, ((0, None),), (0,))), 0)
        self.assertEqual(lets_wait(((99999, ()),), (99999, ((0, None),), (0,))), 99999)

    def test_shape(self):
        for thing in ODD + (deep(30), list(PAPER), PAPER[:2], PAPER + ((),), (STORY, 6, SET)):
            self.refuse(thing, "shape", -1)
        for day in (-1, 100000, True, False, "6", (6,), [], 10 ** 59):
            self.refuse((day, STORY, SET), "shape", -1)
        for story in (None, list(STORY), 6, "story", (None,), ((),), ((2,),), ((2, "ann", 0),), ([2, "ann"],), ((-1, "ann"),),
                      ((True, "ann"),), ((None, "ann"),), (("2", "ann"),), ((2, "Ann"),), ((2, ""),), ((2, "ninesigns"),),
                      ((2, 5),), ((2, False),), ((2, ("ann",)),), (("ann", 2),), STORY + (None,)):
            self.refuse((6, story, SET), "shape", -1)
        for some in (None, list(SET), 4, "", (-1, 0), (0, 0), (1, 0), (0, True), (False,), (None,), ("0",), ((0,),), (0, 2, 1)):
            self.refuse((6, STORY, some), "shape", -1)
        # Of no day just None is the set.
        for some in ((), SET, (0,), 0, False, ""):
            self.refuse((None, STORY, some), "shape", -1)
        # It goes ahead of all other words.
        self.refuse((0, ((99, "nobody"),), (0, -1)), "shape", -1)
        self.refuse((0, ((99, "nobody"), None), ()), "shape", -1)

    def test_rows(self):
        self.refuse((6, ((6, "ann"),) + STORY, SET), "row", 0)
        self.refuse((6, STORY[:2] + ((10 ** 59, None),), SET), "row", 2)
        self.refuse((6, STORY[:2] + ((2, "ann"),) + STORY[2:], SET), "row", 2)
        self.refuse((None, ((0, "ann"), (0, "bet")), None), "row", 1)
        self.refuse((6, ((0, None),), ()), "row", 0, ())
        # Of one pair it goes ahead of all else, of pairs the one ahead.
        self.refuse((1, ((7, None),), ()), "row", 0)
        self.refuse((6, ((2, "bet"), (7, "ann")), SET), "who", 0)

    def test_late(self):
        self.refuse((5, STORY, SET), "late", 0)
        self.refuse((6, STORY[:1] + ((3, None),) + STORY[1:], SET), "late", 1)
        self.refuse((8, ((3, None),), SET), "late", 0)
        self.refuse((3, ((4, "cis"), (0, "nobody")), SET), "late", 1)
        # Of no day none is late.
        self.refuse((None, ((3, None),), None), "end", 0)

    def test_who(self):
        for bad in ("bet", "dot", "nobody", None):
            self.refuse((6, ((2, bad),) + STORY[1:], SET), "who", 0)
        self.refuse((6, STORY[:1] + ((4, "dot"),) + STORY[2:], SET), "who", 1)
        # ann is had already.
        self.refuse((6, STORY[:2] + ((0, "ann"),) + STORY[3:], SET), "who", 2)
        for bad in ("bet", "cis", "dot"):
            self.refuse((6, STORY[:3] + ((1, bad),), SET), "who", 3)
        self.refuse((None, ((0, "bet"), (1, "cis")), None), "who", 0, FREE_CASE)
        self.refuse((9, ((3, "ann"),), (3,)), "who", 0)

    def test_ends(self):
        # No day, not the last pair, not on the day.
        self.refuse((None, ((1, "bet"), (4, "cis"), (5, None)), None), "end", 2)
        self.refuse((6, STORY + ((5, None),), SET), "end", 3)
        self.refuse((9, STORY, SET), "end", 3)
        self.refuse((9, ((3, None), (2, "ann")), SET), "end", 0)
        self.refuse((9, ((2, "ann"), (0, "bet"), (4, "cis"), (1, None)), SET), "end", 3)

    def test_lacks(self):
        self.refuse((6, ((2, "ann"), (4, "cis"), (1, "bet"), (5, None)), SET), "lacks", 0)
        self.refuse((6, ((2, "ann"), (0, "bet")), SET), "lacks", 4)
        self.refuse((6, (), SET), "lacks", 0)
        self.refuse((None, ((0, "ann"),), None), "lacks", 1, FREE_CASE)
        self.refuse((None, ((1, "cis"),), None), "lacks", 0, FREE_CASE)
        self.refuse((None, (), None), "lacks", 0, FREE_CASE)
        # Ahead of the last, and of the set.
        self.refuse((7, (), (99,)), "lacks", 0)

    def test_last(self):
        self.refuse((6, ((2, "ann"), (4, "cis"), (0, "bet")), SET), "last", -1)
        self.refuse((0, (), ()), "last", -1)
        self.refuse((0, (), ()), "last", -1, ())
        self.refuse((6, ((2, "ann"), (4, "cis"), (0, "bet")), (99,)), "last", -1)
        self.refuse((3, ((0, "ann"), (1, "cis")), (0, 1)), "last", -1, FREE_CASE)

    def test_sets(self):
        for some, k in (((6,), 0), ((0, 1, 2, 5, 6), 4), ((3,), 0), ((0, 1, 2, 3, 5), 3), ((0, 10 ** 59), 1)):
            self.refuse((6, STORY, some), "set", k)

    def test_enough(self):
        for some in ((), (0,), (0, 1), (0, 1, 2), (1, 5), (0, 1, 4, 5), (2, 4)):
            self.refuse((6, STORY, some), "enough", -1)
        # Each name is counted once.
        self.assertEqual(lets_wait(((5, ("ann",)), (5, ("ann",))), (5, ((0, "ann"), (1, None)), (0, 1))), 5)
        self.refuse((5, ((0, "ann"), (1, None)), (0,)), "enough", -1, ((5, ("ann",)), (5, ("ann",))))

    def test_nothing_is_changed(self):
        thing = (6, ([2, "ann"],), [0, 1])
        before = copy.deepcopy(thing)
        with self.assertRaises(NoPaper):
            lets_wait(CASE, thing)
        self.assertEqual(thing, before)


class TestAsTold(unittest.TestCase):
    def test_papers_told_and_papers_spoilt(self):
        rng, words = maker(72), {}
        cases = BY_HAND + tuple(tight_case(rng) for _ in range(60)) + tuple(some_case(rng, 6, 5) for _ in range(200))
        for case in cases:
            paper = longest(case)
            self.assertEqual(lets_wait(case, paper), paper[0])
            for _ in range(25):
                bad = spoilt(rng, paper)
                if rng.random() < 0.3:
                    bad = (rng.choice((None, 0, 5, 9)), paper[1], paper[2]) if rng.random() < 0.5 else \
                        (paper[0], tuple(rng.sample(paper[1], len(paper[1]))), paper[2])
                fault = wait_fault(case, bad)
                if fault is None:
                    self.assertEqual(lets_wait(case, bad), bad[0])
                    self.assertEqual(bad[0], paper[0])
                else:
                    self.assertEqual(refusal(lets_wait, case, bad), fault, (case, bad))
                    words[fault[0]] = words.get(fault[0], 0) + 1
        self.assertEqual(set(words), set("shape row late who end lacks last set enough".split()))

    def test_whatever_is_let_by_shows_the_longest(self):
        # All papers of small cases: those let by have one day.
        for case in ((), CHAIN[:2], RING[:2], ((1, ("a",)), (0, ("a",))), ((1, ()), (0, ("a",))), ((0, ()), (1, ()))):
            rows = range(len(case))
            pairs = [(r, who) for r in rows for who in ("a", "b", "c", None)]
            stories = [story for many in range(len(case) + 1) for story in itertools.product(pairs, repeat=many)]
            sets = [some for many in range(len(case) + 1) for some in itertools.combinations(rows, many)]
            passed = []
            for day, story, some in itertools.product((None, 0, 1, 2), stories, sets + [None]):
                try:
                    passed.append(lets_wait(case, (day, story, some)))
                except NoPaper as error:
                    self.assertEqual((error.word, error.at), wait_fault(case, (day, story, some)))
            self.assertEqual(set(passed), {longest(case)[0]}, case)
