import copy
import unittest

from almsrow.roundchecker import lets_round, lets_row
from almsrow.rounds import round_of
from tests.common import NEVER, ODD, deep, maker, refusal
from tests.test_rounds import keeps, some_weights
from tests.test_weights import MANY

WEIGHTS = (3, 2, 1)
ROUND = (0, 1, 0, 1, 0, 2)
NO_SEATS = NEVER + (3, 4, -1, -2, -3, None, "0", (0,), [0], 10 ** 59, -10 ** 59)


def slow_row(weights, row):
    """To how many a row goes, each beginning asked anew."""
    many = 0
    for k in range(1, len(row) + 1):
        thing = row[k - 1]
        if type(thing) is not int or thing not in range(len(weights)) or not keeps(weights, row[:k], k):
            return many
        many = k
    return many


class TestLetsRound(unittest.TestCase):
    def refuse(self, weights, thing, word, at):
        self.assertEqual(refusal(lets_round, weights, thing), (word, at), thing)

    def test_rounds_are_let_by(self):
        for weights in MANY:
            self.assertIs(lets_round(weights, round_of(weights)), True)

    def test_any_other_that_keeps_the_bounds(self):
        self.assertIs(lets_round((1, 1), (1, 0)), True)
        self.assertIs(lets_round((2, 2), (1, 0, 0, 1)), True)
        self.assertIs(lets_round((1, 1, 1), (2, 0, 1)), True)
        self.assertIs(lets_round(WEIGHTS, ROUND[::-1]), True)
        self.assertIs(lets_round(WEIGHTS, (1, 0, 2, 0, 1, 0)), True)

    def test_shape(self):
        things = ODD + (deep(30), list(ROUND), ROUND[:5], ROUND + (0,), ROUND * 2, (), "010102")
        for thing in things:
            self.refuse(WEIGHTS, thing, "shape", -1)
        self.refuse((1,), (), "shape", -1)
        self.refuse((1,), (0, 0), "shape", -1)
        self.refuse((2,), (7,), "shape", -1)

    def test_seats(self):
        for thing in NO_SEATS:
            for k in range(6):
                self.refuse(WEIGHTS, ROUND[:k] + (thing,) + ROUND[k + 1:], "seat", k)
        self.refuse(WEIGHTS, (0, 1, True, 1, 0, None), "seat", 2)
        self.refuse((1,), (False,), "seat", 0)

    def test_seats_go_ahead_of_bounds(self):
        self.refuse(WEIGHTS, (2, 2, 2, 2, 2, 3), "seat", 5)

    def test_bounds(self):
        self.refuse(WEIGHTS, (0, 0, 1, 1, 0, 2), "bounds", 2)
        self.refuse(WEIGHTS, (1, 2, 0, 0, 1, 0), "bounds", 2)
        self.refuse(WEIGHTS, (0, 1, 1, 0, 0, 2), "bounds", 3)
        self.refuse(WEIGHTS, (0, 1, 0, 1, 2, 2), "bounds", 6)
        self.refuse((5, 1), (1, 1, 0, 0, 0, 0), "bounds", 2)
        self.refuse((5, 1), (0,) * 6, "bounds", 6)
        self.refuse((1, 1), (0, 0), "bounds", 2)

    def test_bounds_as_told_of_many(self):
        rng = maker(28)
        seen = set()
        for _ in range(300):
            weights = some_weights(rng)
            if sum(weights) > 25:
                continue
            row = list(round_of(weights))
            for _ in range(rng.choice((0, 1, 1, 2))):
                a, b = rng.randrange(len(row)), rng.randrange(len(row))
                row[a], row[b] = row[b], row[a]
            row = tuple(row)
            many = slow_row(weights, row)
            if many == len(row):
                self.assertIs(lets_round(weights, row), True)
                seen.add(row != round_of(weights))
            else:
                self.refuse(weights, row, "bounds", many + 1)
                seen.add("bounds")
        self.assertEqual(seen, {True, False, "bounds"})

    def test_what_is_let_by_keeps_the_bounds_said_again(self):
        for weights, row in (((2, 2), (1, 0, 0, 1)), (WEIGHTS, ROUND[::-1]), ((1, 20, 7), round_of((1, 20, 7)))):
            self.assertIs(lets_round(weights, row), True)
            again = row * 4
            self.assertTrue(keeps(weights, again, len(again)))
            self.assertEqual(lets_row(weights, again), len(again))


class TestLetsRow(unittest.TestCase):
    def test_no_tuple(self):
        for thing in (None, True, 0, "", "010", [], [0, 1], list(ROUND)):
            self.assertEqual(refusal(lets_row, WEIGHTS, thing), ("shape", -1))

    def test_none_at_all(self):
        self.assertEqual(lets_row(WEIGHTS, ()), 0)
        for thing in NO_SEATS:
            self.assertEqual(lets_row(WEIGHTS, (thing,) + ROUND), 0)
        for thing in ODD:
            if isinstance(thing, tuple) and thing[:1] != (1,):
                self.assertEqual(lets_row(WEIGHTS, thing), 0)

    def test_up_to_what_is_no_seat(self):
        for thing in NO_SEATS:
            self.assertEqual(lets_row(WEIGHTS, ROUND + (thing,) + ROUND), 6)
            self.assertEqual(lets_row(WEIGHTS, ROUND[:3] + (thing,)), 3)

    def test_up_to_where_bounds_are_kept(self):
        self.assertEqual(lets_row(WEIGHTS, ROUND), 6)
        self.assertEqual(lets_row(WEIGHTS, (0, 0)), 1)
        self.assertEqual(lets_row(WEIGHTS, (0, 1, 1, 0, 0, 2)), 2)
        self.assertEqual(lets_row(WEIGHTS, (0, 1, 0, 1, 0, 0)), 5)
        self.assertEqual(lets_row(WEIGHTS, (0, 1, 0, 1, 0, 0, None)), 5)
        self.assertEqual(lets_row((1,), (0,) * 30), 30)
        self.assertEqual(lets_row((5, 1), (0,) * 30), 5)

    def test_the_round_said_again(self):
        for weights in MANY:
            row = round_of(weights) * 3
            self.assertEqual(lets_row(weights, row), len(row))
            self.assertEqual(lets_row(weights, row[:-1]), len(row) - 1)
            self.assertEqual(lets_row(weights, row + ("x",)), len(row))
        # Begun amid the round it needn't keep them.
        self.assertEqual(lets_row((1, 3), round_of((1, 3))[1:] * 9), slow_row((1, 3), round_of((1, 3))[1:] * 9))

    def test_very_long_rows(self):
        row = ROUND * 833
        self.assertEqual(lets_row(WEIGHTS, row), 4998)
        self.assertEqual(lets_row(WEIGHTS, row + (1, 1)), 4999)

    def test_as_told_of_many(self):
        rng = maker(29)
        for _ in range(300):
            weights = some_weights(rng)
            row = [rng.randint(-1, len(weights)) if rng.random() < 0.1 else seat for seat in round_of(weights)[:30]]
            if rng.random() < 0.5:
                rng.shuffle(row)
            if rng.random() < 0.2:
                row.insert(rng.randint(0, len(row)), rng.choice(NO_SEATS))
            self.assertEqual(lets_row(weights, tuple(row)), slow_row(weights, tuple(row)))

    def test_nothing_is_changed_nor_remembered(self):
        things = [ROUND, (0, [1], 0), [0, 1], (0, 1, (0,))]
        before = copy.deepcopy(things)
        for _ in range(2):
            self.assertEqual(lets_row(WEIGHTS, things[0]), 6)
            self.assertEqual(lets_row(WEIGHTS, things[1]), 1)
            self.assertEqual(refusal(lets_row, WEIGHTS, things[2]), ("shape", -1))
            self.assertEqual(lets_row(WEIGHTS, things[3]), 2)
            self.assertIs(lets_round(WEIGHTS, things[0]), True)
        self.assertEqual(things, before)
