import copy
import unittest
from fractions import Fraction
from math import ceil, floor

from almsrow.errors import NoSeat, NoTurn
from almsrow.weights import first_of, is_weights, last_of
from tests.common import NEVER, ODD, deep

MANY = ((1,), (20,), (1, 1), (3, 2, 1), (5, 5), (20, 1), (1, 20, 7), (2, 3, 5, 7), (20,) * 6, (1, 2, 3, 4, 5, 6))
FAR = (10 ** 29, 10 ** 29 + 7, 10 ** 60 - 1)


class TestIsWeights(unittest.TestCase):
    def test_weights_however_many_and_great(self):
        for thing in MANY + ((1,) * 5000, (10 ** 59, 1), (21,), (3,) * 7):
            self.assertIs(is_weights(thing), True)

    def test_no_weights(self):
        things = ((), (0,), (1, 0), (0, 1), (-1,), (1, -5), (True,), (1, True), (False,), (None,), ("1",), [1], ((1,),),
                  ([1],), (1, [2]), deep(30), 1, "1")
        for thing in things:
            self.assertIs(is_weights(thing), False, thing)
        for thing in ODD:
            if thing != (1, 2, 3, 4):
                self.assertIs(is_weights(thing), False, thing)

    def test_other_kinds_at_each_place(self):
        for k in range(3):
            for never in NEVER:
                self.assertIs(is_weights((3, 2, 1)[:k] + (never,) + (3, 2, 1)[k + 1:]), False)

    def test_nothing_is_changed(self):
        things = [(1, [2]), [1, 2], ((3, [4]),)]
        before = copy.deepcopy(things)
        for thing in things:
            is_weights(thing)
        self.assertEqual(things, before)


class TestWindows(unittest.TestCase):
    def test_told_by_hand(self):
        # W is 6: the seat of 2 has windows of three turns each, that of 1 of all six.
        self.assertEqual([(first_of((3, 2, 1), 1, j), last_of((3, 2, 1), 1, j)) for j in (1, 2, 3)],
                         [(0, 2), (3, 5), (6, 8)])
        self.assertEqual((first_of((3, 2, 1), 2, 1), last_of((3, 2, 1), 2, 1)), (0, 5))
        # W is 5, of weight 3: 0 to 5/3, 5/3 to 10/3, 10/3 to 5.
        self.assertEqual([(first_of((3, 2), 0, j), last_of((3, 2), 0, j)) for j in (1, 2, 3, 4)],
                         [(0, 1), (1, 3), (3, 4), (5, 6)])
        self.assertEqual((first_of((4,), 0, 9), last_of((4,), 0, 9)), (8, 8))

    def test_as_told(self):
        for weights in MANY:
            whole = sum(weights)
            for seat, weight in enumerate(weights):
                for j in list(range(1, 2 * weight + 3)) + list(FAR):
                    self.assertEqual(first_of(weights, seat, j), floor(Fraction((j - 1) * whole, weight)))
                    self.assertEqual(last_of(weights, seat, j), ceil(Fraction(j * whole, weight)) - 1)

    def test_the_round_said_again(self):
        for weights in MANY:
            for seat, weight in enumerate(weights):
                for j in (1, 2, weight):
                    self.assertEqual(first_of(weights, seat, j + 7 * weight), first_of(weights, seat, j) + 7 * sum(weights))
                    self.assertEqual(last_of(weights, seat, j + 7 * weight), last_of(weights, seat, j) + 7 * sum(weights))


class TestRefused(unittest.TestCase):
    def test_seats_that_there_are_not(self):
        for call in (first_of, last_of):
            for seat in (-1, -3, 3, 4, 10 ** 59, -10 ** 59):
                for j in (1, 0, -1):
                    with self.assertRaises(NoSeat) as caught:
                        call((3, 2, 1), seat, j)
                    self.assertEqual(caught.exception.seat, seat)

    def test_turns_from_one_on(self):
        for call in (first_of, last_of):
            for j in (0, -1, -10 ** 30):
                with self.assertRaises(NoTurn) as caught:
                    call((3, 2, 1), 2, j)
                self.assertEqual(caught.exception.turn, j)
