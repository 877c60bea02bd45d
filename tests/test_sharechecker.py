import copy
import itertools
import unittest

from almsrow.errors import NoPaper
from almsrow.sharechecker import lets_shares
from almsrow.shares import shares
from tests.common import ODD, deep, maker, refusal, spoilt
from tests.slow import slow_shares
from tests.test_shares import DUES, MOST, some_dues, some_sums


def share_fault(some, pence, thing):
    """The word and the place by which a thing isn't the shares, or None."""
    if type(thing) is not tuple or [type(part) for part in thing] != [int] * len(some):
        return ("shape", -1)
    parts = [divmod(pence * due, sum(some)) for due in some]
    for k, (low, _) in enumerate(parts):
        if thing[k] not in (low, low + 1):
            return ("part", k)
    if sum(thing) != pence:
        return ("sum", -1)
    for k in range(len(some)):
        others = [j for j in range(len(some)) if thing[j] == parts[j][0] and j != k]
        if thing[k] > parts[k][0] and any((parts[j][1], -j) > (parts[k][1], -k) for j in others):
            return ("ahead", k)
    return None


class TestLetsShares(unittest.TestCase):
    def refuse(self, some, pence, thing, word, at):
        self.assertEqual(refusal(lets_shares, some, pence, thing), (word, at), (some, pence, thing))

    def test_the_shares_told(self):
        rng = maker(58)
        for some in DUES + tuple(some_dues(rng) for _ in range(100)):
            for pence in some_sums(rng, some):
                self.assertIs(lets_shares(some, pence, shares(some, pence)), True)
                self.assertIs(lets_shares(some, pence, slow_shares(some, pence)), True)

    def test_shape(self):
        for thing in ODD + (deep(30), [5, 7], (5,), (5, 7, 0), (5, 7, None), ((5, 7),), "57", 12):
            self.refuse((21, 35), 12, thing, "shape", -1)
        for part in (True, False, None, "5", (5,), [5], ()):
            self.refuse((21, 35), 12, (part, 7), "shape", -1)
            self.refuse((21, 35), 12, (5, part), "shape", -1)
            # It goes ahead of all other words.
            self.refuse((21, 35, 1), 12, (99, 99, part), "shape", -1)
        for thing in ((), [1], (True,), (None,), 1, True, ((1,),), (1, 0)):
            self.refuse((1,), 1, thing, "shape", -1)
        self.refuse((1, 1), 1, (True, False), "shape", -1)

    def test_parts(self):
        # 4 and 7, of which one has one more.
        for bad in (-1, 0, 3, 6, 8, 99, 10 ** 59, -10 ** 59):
            self.refuse((21, 35), 12, (bad, 7), "part", 0)
            self.refuse((21, 35), 12, (bad, 99), "part", 0)
        for bad in (-1, 5, 6, 9, 12):
            self.refuse((21, 35), 12, (5, bad), "part", 1)
            self.refuse((21, 35), 12, (4, bad), "part", 1)
        some = (1,) * 16
        for k in range(16):
            self.refuse(some, 8, (1,) * k + (2,) + (0,) * (15 - k), "part", k)
            self.refuse(some, 8, (0,) * k + (-1,) + (7,) * (15 - k), "part", k)
        # It goes ahead of the sum: these come to it, and these don't.
        self.refuse((21, 35), 12, (3, 9), "part", 0)
        self.refuse((21, 35), 12, (3, 8), "part", 0)

    def test_the_sum(self):
        self.refuse((21, 35), 12, (4, 7), "sum", -1)
        self.refuse((21, 35), 12, (5, 8), "sum", -1)
        self.refuse((1, 1, 1), 1, (0, 0, 0), "sum", -1)
        self.refuse((1, 1, 1), 1, (0, 1, 1), "sum", -1)
        # One more where nothing is left, beside parts that are all right.
        self.refuse((2, 2), 2, (1, 2), "sum", -1)
        self.refuse((0, 1), 1, (1, 1), "sum", -1)
        self.refuse((MOST, MOST), 2 * MOST, (MOST, MOST + 1), "sum", -1)

    def test_ahead(self):
        # As much is left of both; the one behind has the penny.
        self.refuse((21, 35), 12, (4, 8), "ahead", 1)
        # 42 and 14 by 56 are left.
        self.refuse((21, 35), 50, (18, 32), "ahead", 1)
        self.refuse((35, 21), 50, (32, 18), "ahead", 0)
        self.refuse((1, 1, 1), 1, (0, 1, 0), "ahead", 1)
        self.refuse((1, 1, 1), 1, (0, 0, 1), "ahead", 2)
        self.refuse((1, 1, 1), 2, (1, 0, 1), "ahead", 2)
        self.refuse((1, 1, 1), 2, (0, 1, 1), "ahead", 1)
        # One more of a due by which nothing is left.
        self.refuse((0, 1, 1), 1, (1, 0, 0), "ahead", 0)
        self.refuse((1, 1, 0), 1, (0, 0, 1), "ahead", 2)
        for k in range(1, 16):
            self.refuse((1,) * 16, 1, (0,) * k + (1,) + (0,) * (15 - k), "ahead", k)

    def test_just_one_is_let_by(self):
        for some in itertools.product(range(3), repeat=3):
            for pence in range(sum(some) + 1):
                passed = []
                for thing in itertools.product(range(-1, 5), repeat=3):
                    if any(some):
                        fault = share_fault(some, pence, thing)
                        if fault is None:
                            self.assertIs(lets_shares(some, pence, thing), True)
                            passed.append(thing)
                        else:
                            self.refuse(some, pence, thing, *fault)
                self.assertEqual(passed, [shares(some, pence)] if any(some) else [])

    def test_shares_spoilt(self):
        rng, words = maker(581), set()
        for _ in range(600):
            some = some_dues(rng)
            pence = rng.choice(some_sums(rng, some))
            due = list(shares(some, pence))
            j, k = rng.randrange(len(due)), rng.randrange(len(due))
            due[j], due[k] = due[j] + rng.choice((0, 1)), due[k] - 1
            bad = rng.choice((tuple(due), spoilt(rng, shares(some, pence)), shares(some, pence)[::-1]))
            fault = share_fault(some, pence, bad)
            if fault is None:
                self.assertIs(lets_shares(some, pence, bad), True)
            else:
                self.refuse(some, pence, bad, *fault)
                words.add(fault[0])
        self.assertEqual(words, {"shape", "part", "sum", "ahead"})

    def test_nothing_is_changed(self):
        thing = [5, [7]]
        before = copy.deepcopy(thing)
        with self.assertRaises(NoPaper):
            lets_shares((21, 35), 12, thing)
        self.assertEqual(thing, before)
