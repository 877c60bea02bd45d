import unittest
from fractions import Fraction
from math import ceil, floor

from almsrow.errors import NoSeat, NoTurn
from almsrow.kinds import is_number
from almsrow.rounds import bounds_of, round_of
from tests.common import maker
from tests.test_weights import FAR, MANY


def some_weights(rng):
    return tuple(rng.randint(1, rng.choice((2, 6, 20))) for _ in range(rng.randint(1, 6)))


def keeps(weights, row, m):
    """Whether the row keeps the bounds to m, counted anew for each k."""
    whole = sum(weights)
    for k in range(m + 1):
        for seat, weight in enumerate(weights):
            share = Fraction(k * weight, whole)
            if not floor(share) <= row[:k].count(seat) <= ceil(share):
                return False
    return True


def slow_round(weights):
    """The round as point 26 makes it, windows by fractions."""
    whole, row = sum(weights), []
    for t in range(whole):
        best = None
        for seat, weight in enumerate(weights):
            j = row.count(seat) + 1
            if floor(Fraction((j - 1) * whole, weight)) <= t:
                rank = (ceil(Fraction(j * whole, weight)) - 1, seat)
                best = rank if best is None else min(best, rank)
        row.append(best[1])
    return tuple(row)


class TestBounds(unittest.TestCase):
    def test_by_hand(self):
        self.assertEqual([bounds_of((3, 2, 1), 0, k) for k in range(7)],
                         [(0, 0), (0, 1), (1, 1), (1, 2), (2, 2), (2, 3), (3, 3)])
        self.assertEqual([bounds_of((3, 2, 1), 2, k) for k in (0, 1, 5, 6, 7, 12)],
                         [(0, 0), (0, 1), (0, 1), (1, 1), (1, 2), (2, 2)])
        self.assertEqual(bounds_of((7,), 0, 5), (5, 5))

    def test_as_told(self):
        for weights in MANY:
            whole = sum(weights)
            for seat, weight in enumerate(weights):
                for k in list(range(0, 2 * whole + 2, 3)) + [whole, whole - 1, whole + 1] + list(FAR):
                    told = bounds_of(weights, seat, k)
                    share = Fraction(k * weight, whole)
                    self.assertEqual(told, (floor(share), ceil(share)))
                    self.assertIs(type(told), tuple)

    def test_refused(self):
        for seat in (-1, 3, 10 ** 40, -10 ** 40):
            for k in (0, 5, -1):
                with self.assertRaises(NoSeat) as caught:
                    bounds_of((3, 2, 1), seat, k)
                self.assertEqual(caught.exception.seat, seat)
        for k in (-1, -10 ** 30):
            with self.assertRaises(NoTurn) as caught:
                bounds_of((3, 2, 1), 0, k)
            self.assertEqual(caught.exception.turn, k)


class TestRound(unittest.TestCase):
    def test_by_hand(self):
        self.assertEqual(round_of((1,)), (0,))
        self.assertEqual(round_of((4,)), (0, 0, 0, 0))
        self.assertEqual(round_of((1, 1, 1)), (0, 1, 2))
        self.assertEqual(round_of((2, 2)), (0, 1, 0, 1))
        # At turn 1 both windows end at 2: the least seat goes.
        self.assertEqual(round_of((2, 1)), (0, 0, 1))
        self.assertEqual(round_of((1, 2)), (1, 0, 1))
        self.assertEqual(round_of((1, 3)), (1, 1, 0, 1))
        # Windows of seat 0: 0-1, 2-3, 4-5; of seat 1: 0-2, 3-5; of seat 2: 0-5.
        self.assertEqual(round_of((3, 2, 1)), (0, 1, 0, 1, 0, 2))

    def test_as_told_of_many(self):
        rng = maker(26)
        for weights in list(MANY) + [some_weights(rng) for _ in range(60)]:
            told = round_of(weights)
            self.assertIs(type(told), tuple)
            self.assertTrue(all(is_number(seat) for seat in told))
            self.assertEqual(told, slow_round(weights))

    def test_it_keeps_the_bounds(self):
        rng = maker(27)
        for weights in list(MANY) + [some_weights(rng) for _ in range(20)]:
            told = round_of(weights)
            self.assertEqual([told.count(seat) for seat in range(len(weights))], list(weights))
            self.assertTrue(keeps(weights, told, sum(weights)))

    def test_nothing_is_remembered(self):
        first = [round_of(weights) for weights in MANY]
        self.assertEqual([round_of(weights) for weights in MANY[::-1]], first[::-1])
