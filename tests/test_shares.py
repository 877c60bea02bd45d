import itertools
import unittest

from almsrow.shares import shares
from tests.common import maker
from tests.slow import slow_shares

MOST = 10 ** 9

# Dues with noughts, alike ones, great ones.
DUES = ((1,), (7,), (MOST,), (1, 1), (0, 1), (1, 0), (0, 0, 3, 0), (5, 5, 5), (2, 1, 2, 1), (3, 7, 3, 7, 0, 7), (1,) * 16,
        (MOST,) * 16, (MOST, 1), (1, MOST), (MOST, MOST - 1, 0, MOST), (0,) * 15 + (1,), tuple(range(16)))


def some_dues(rng):
    most = rng.choice((1, 2, 5, 100, MOST))
    some = tuple(rng.choice((0, rng.randint(0, most), most)) for _ in range(rng.randint(1, 16)))
    return some if any(some) else (1,)


def some_sums(rng, some):
    whole = sum(some)
    return sorted({0, min(1, whole), whole // 2, max(whole - 1, 0), whole, rng.randint(0, whole)})


class TestShares(unittest.TestCase):
    def tell(self, some, pence, due):
        told = shares(some, pence)
        self.assertEqual(told, due, (some, pence))
        self.assertIs(type(told), tuple)
        self.assertEqual({type(part) for part in told}, {int})

    def test_by_hand(self):
        self.tell((12, 20), 16, (6, 10))
        # 4 and 7 pence, one left; they leave as much: the one that stands ahead has it.
        self.tell((21, 35), 12, (5, 7))
        self.tell((35, 21), 12, (8, 4))
        # 18 and 31, 42 and 14 by 56 left.
        self.tell((21, 35), 50, (19, 31))
        self.tell((35, 21), 50, (31, 19))
        # The one behind leaves most.
        self.tell((1, 2), 1, (0, 1))
        self.tell((1, 1, 2), 3, (1, 1, 1))
        self.tell((1, 1, 2), 2, (1, 0, 1))
        self.tell((3, 3, 1), 5, (2, 2, 1))

    def test_noughts(self):
        self.tell((0, 5, 0, 5), 5, (0, 3, 0, 2))
        self.tell((0, 5, 0, 5), 9, (0, 5, 0, 4))
        self.tell((0, 0, 0, 1), 1, (0, 0, 0, 1))
        self.tell((0, 0, 0, 1), 0, (0, 0, 0, 0))

    def test_alike_ones(self):
        for pence in range(17):
            self.tell((1,) * 16, pence, (1,) * pence + (0,) * (16 - pence))
        for pence in range(4):
            self.tell((MOST,) * 3, 3 * 10 ** 8 + pence, tuple(10 ** 8 + (k < pence) for k in range(3)))
        self.tell((2, 1, 2, 1), 3, (1, 1, 1, 0))
        self.tell((2, 1, 2, 1), 4, (1, 1, 1, 1))

    def test_sums_at_the_ends(self):
        for some in DUES:
            whole = sum(some)
            self.tell(some, whole, some)
            self.tell(some, 0, (0,) * len(some))
            # One penny goes to the first of the greatest, and one lacks of the due that leaves least.
            one = shares(some, 1)
            self.assertEqual([k for k, part in enumerate(one) if part], [some.index(max(some))])
            self.assertEqual(sum(one), 1)
            less = shares(some, whole - 1)
            self.assertEqual(sum(due - part for due, part in zip(some, less)), 1)
            self.assertEqual(less, slow_shares(some, whole - 1))

    def test_great_ones(self):
        self.tell((MOST, 1), 1, (1, 0))
        self.tell((MOST, 1), MOST, (MOST - 1, 1))
        self.tell((1, MOST), MOST, (1, MOST - 1))
        self.tell((MOST, MOST - 1), MOST, (MOST // 2, MOST // 2))
        self.tell((MOST,) * 16, 16 * MOST - 1, (MOST,) * 15 + (MOST - 1,))

    def test_against_penny_by_penny(self):
        for some in itertools.product(range(4), repeat=4):
            for pence in range(sum(some) + 1):
                if any(some):
                    self.tell(some, pence, slow_shares(some, pence))
        rng = maker(57)
        for _ in range(300):
            some = some_dues(rng)
            for pence in some_sums(rng, some):
                self.tell(some, pence, slow_shares(some, pence))

    def test_what_comes_of_it(self):
        rng = maker(59)
        for _ in range(300):
            some = some_dues(rng)
            for pence in some_sums(rng, some):
                told, whole = shares(some, pence), sum(some)
                self.assertEqual((len(told), sum(told)), (len(some), pence))
                for k, part in enumerate(told):
                    self.assertTrue(0 <= part <= some[k])
                    self.assertIn(part - pence * some[k] // whole, (0, 1) if pence * some[k] % whole else (0,))
                    for j in range(len(some)):
                        if some[j] > some[k]:
                            self.assertGreaterEqual(told[j], part)
                        if some[j] == some[k] and j < k:
                            self.assertIn(told[j] - part, (0, 1))
