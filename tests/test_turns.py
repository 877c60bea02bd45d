import unittest

from almsrow.errors import NoSeat, NoTurn
from almsrow.rounds import bounds_of, round_of
from almsrow.turns import how_many, next_turn, nth_turn, seat_of
from almsrow.weights import first_of, last_of
from tests.test_weights import MANY

WEIGHTS = (3, 2, 1)
LONG = 7 * 10 ** 29 + 5


class TestTurns(unittest.TestCase):
    def test_by_hand(self):
        # The round is 0 1 0 1 0 2.
        self.assertEqual([seat_of(WEIGHTS, t) for t in range(13)], [0, 1, 0, 1, 0, 2, 0, 1, 0, 1, 0, 2, 0])
        self.assertEqual([how_many(WEIGHTS, 1, k) for k in range(9)], [0, 0, 1, 1, 2, 2, 2, 2, 3])
        self.assertEqual([nth_turn(WEIGHTS, 1, j) for j in (1, 2, 3, 4)], [1, 3, 7, 9])
        self.assertEqual([next_turn(WEIGHTS, 1, k) for k in range(9)], [1, 1, 3, 3, 7, 7, 7, 7, 9])
        self.assertEqual([next_turn(WEIGHTS, 2, k) for k in (0, 5, 6, 11, 12)], [5, 5, 11, 11, 17])

    def test_as_the_round_said_again(self):
        for weights in MANY:
            row = round_of(weights) * 3
            for t, seat in enumerate(row):
                self.assertEqual(seat_of(weights, t), seat)
            for seat in range(len(weights)):
                turns = [t for t, who in enumerate(row) if who == seat]
                for j, t in enumerate(turns, 1):
                    self.assertEqual(nth_turn(weights, seat, j), t)
                for k in range(0, len(row) + 1, 1 if len(row) < 100 else 7):
                    self.assertEqual(how_many(weights, seat, k), row[:k].count(seat))
                    behind = [t for t in turns if t >= k]
                    if behind:
                        self.assertEqual(next_turn(weights, seat, k), behind[0])

    def test_far_away(self):
        for weights in MANY:
            whole = sum(weights)
            start = LONG * whole
            for t in (0, 1, whole - 1, whole):
                self.assertEqual(seat_of(weights, start + t), seat_of(weights, t))
                for seat, weight in enumerate(weights):
                    self.assertEqual(how_many(weights, seat, start + t), LONG * weight + how_many(weights, seat, t))
                    self.assertEqual(next_turn(weights, seat, start + t), start + next_turn(weights, seat, t))
            for seat, weight in enumerate(weights):
                for j in (1, weight, weight + 1):
                    self.assertEqual(nth_turn(weights, seat, LONG * weight + j), start + nth_turn(weights, seat, j))

    def test_bounds_and_windows_for_ever(self):
        for weights in MANY:
            whole = sum(weights)
            for seat, weight in enumerate(weights):
                for k in list(range(2 * whole + 2)) + [LONG * whole - 1, LONG * whole + 1, LONG]:
                    self.assertIn(how_many(weights, seat, k), bounds_of(weights, seat, k))
                for j in list(range(1, 2 * weight + 2)) + [LONG, LONG * weight]:
                    turn = nth_turn(weights, seat, j)
                    self.assertTrue(first_of(weights, seat, j) <= turn <= last_of(weights, seat, j))
                    self.assertEqual(seat_of(weights, turn), seat)
                    self.assertEqual(how_many(weights, seat, turn), j - 1)

    def test_the_next_one_is_one_more_than_had(self):
        for weights in ((3, 2, 1), (1, 20, 7), (1, 1)):
            for seat in range(len(weights)):
                for k in list(range(70)) + [LONG]:
                    told = next_turn(weights, seat, k)
                    self.assertEqual(told, nth_turn(weights, seat, how_many(weights, seat, k) + 1))
                    self.assertGreaterEqual(told, k)
                    self.assertEqual(seat_of(weights, told), seat)
                    self.assertEqual(told == k, seat_of(weights, k) == seat)

    def test_each_turn_is_one_seats_once(self):
        for weights in ((3, 2, 1), (1, 20, 7), (4,), (1, 1, 1)):
            whole = sum(weights)
            turns = [nth_turn(weights, seat, j) for seat, weight in enumerate(weights) for j in range(1, 2 * weight + 1)]
            self.assertEqual(sorted(turns), list(range(2 * whole)))

    def test_one_seat_alone(self):
        for weight in (1, 4, 20):
            for k in (0, 1, 19, 20, LONG):
                self.assertEqual(seat_of((weight,), k), 0)
                self.assertEqual(how_many((weight,), 0, k), k)
                self.assertEqual(nth_turn((weight,), 0, k + 1), k)
                self.assertEqual(next_turn((weight,), 0, k), k)

    def test_weights_alike(self):
        for many in (2, 6):
            for weight in (1, 3):
                for t in (0, 1, many, 7 * many + 1, LONG):
                    self.assertEqual(seat_of((weight,) * many, t), t % many)

    def test_nothing_is_remembered(self):
        first = [seat_of(weights, LONG) for weights in MANY]
        self.assertEqual([seat_of(weights, LONG) for weights in MANY[::-1]], first[::-1])


class TestRefused(unittest.TestCase):
    def refuse(self, error, field, call, *things):
        with self.assertRaises(error) as caught:
            call(*things)
        self.assertEqual(getattr(caught.exception, field), things[-1] if error is NoTurn else things[1])

    def test_turns_and_counts_below(self):
        for number in (-1, -6, -LONG):
            self.refuse(NoTurn, "turn", seat_of, WEIGHTS, number)
            self.refuse(NoTurn, "turn", how_many, WEIGHTS, 0, number)
            self.refuse(NoTurn, "turn", next_turn, WEIGHTS, 2, number)
            self.refuse(NoTurn, "turn", nth_turn, WEIGHTS, 2, number)
        self.refuse(NoTurn, "turn", nth_turn, WEIGHTS, 0, 0)
        self.assertEqual(how_many(WEIGHTS, 0, 0), 0)
        self.assertEqual(next_turn(WEIGHTS, 2, 0), 5)

    def test_seats_ahead_of_turns(self):
        for seat in (-1, -3, 3, LONG, -LONG):
            for call in (how_many, nth_turn, next_turn):
                for number in (1, 0, -1, -LONG):
                    self.refuse(NoSeat, "seat", call, WEIGHTS, seat, number)
