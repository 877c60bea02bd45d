import copy
import itertools
import unittest

from almsrow.cases import is_case, longest, saturated
from almsrow.waitchecker import lets_wait
from tests.common import ODD, deep, maker

ABC = ("ann", "bet", "cis")

# Rows in a chain, in a ring, all of one order.
CHAIN = tuple((k, NAMES) for k, NAMES in enumerate((("a",), ("a", "b"), ("b", "c"), ("c", "d"))))
RING = ((3, ("a", "b")), (2, ("b", "c")), (1, ("c", "d")), (4, ("d", "a")))
ALIKE = tuple((9 - k, ABC) for k in range(4))
BY_HAND = ((), CHAIN, RING, ALIKE, CHAIN + RING, CHAIN + ((7, ("d",)),), RING + ((2, ("a", "c")),), ALIKE[1:],
           ((5, ()),), ((5, ()), (3, ())), ((5, ("a",)), (5, ("a",))), ((0, ("a",)), (99999, ("a",))),
           ((4, ("b", "a")), (4, ("a", "b")), (4, ("b",))), ((4, ("b", "a")), (4, ("b",))),
           ((9, ("a", "b", "c")), (9, ("b", "a", "c")), (9, ("c", "a", "b")), (2, ("a",)), (3, ("b",))))


def slow_longest(case):
    """The greatest day of all ways, by going through them; None where by one of them the one gets none."""
    def ways(left, had, day):
        if not left:
            yield None
        for r in left:
            rest = [other for other in left if other != r]
            names = [name for name in case[r][1] if name not in had]
            # On each day that lets those left be emptied in time.
            for on in range(day, min(case[other][0] for other in left) + 1):
                if names:
                    yield from ways(rest, had + names[:1], on)
                else:
                    yield on
    days = list(ways(list(range(len(case))), [], 0))
    return None if None in days else max(days)


def slow_set(case, day):
    """Whether some of the rows up to the day are more than the names in their aheads."""
    rows = [row for row in case if row[0] <= day]
    return any(len({name for _, ahead in some for name in ahead}) < len(some)
               for many in range(1, len(rows) + 1) for some in itertools.combinations(rows, many))


def slow_day(case):
    """The least day with such rows."""
    return min([until for until, _ in case if slow_set(case, until)], default=None)


def some_case(rng, rows, names, last=9):
    some = "abcdefghijklmnop"[:names]
    order = rng.sample(some, len(some))
    told = []
    for _ in range(rng.randint(0, rows)):
        ahead = rng.sample(some, rng.randint(0, names))
        told.append((rng.randint(0, last), tuple(sorted(ahead, key=order.index) if rng.random() < 0.5 else ahead)))
    return tuple(told)


def tight_case(rng):
    """A case of eight rows, each of few names, so that days are reached late, if at all."""
    return tuple((rng.randint(0, 9), tuple(rng.sample("abcdefgh", rng.choice((1, 2, 2, 3, 4))))) for _ in range(8))


class TestIsCase(unittest.TestCase):
    def test_cases(self):
        for case in BY_HAND + (((0, ()),), ((99999, ("ninesign",)),)):
            self.assertIs(is_case(case), True, case)
        # Of however many rows and names.
        names = tuple(a + b for a in "abcdefgh" for b in "abcdefgh")
        self.assertIs(is_case(((5, names),) * 300), True)

    def test_others(self):
        for thing in [thing for thing in ODD if thing != ()] + [deep(30), [], [(5, ())], ((5, ()), None), (5, ()), "case"]:
            self.assertIs(is_case(thing), False, thing)
        for row in ((5,), (5, (), ()), [5, ()], (5, []), (5, ["ann"]), (5, "ann"), (5, None), ((), 5), (-1, ()), (100000, ()),
                    (True, ()), (False, ()), (None, ()), ("5", ()), (5, ("Ann",)), (5, ("",)), (5, ("ninesigns",)),
                    (5, (None,)), (5, (5,)), (5, (("ann",),)), (5, ("ann", ["bet"])), (5, ("ann", "ann")),
                    (5, ("ann", "bet", "ann")), (10 ** 59, ())):
            self.assertIs(is_case((row,)), False, row)
            self.assertIs(is_case(((5, ("ann",)), row)), False, row)


class TestSaturated(unittest.TestCase):
    def look(self, case, day):
        """What is told is so, and just one of both words can be."""
        told = saturated(case, day)
        self.assertEqual([type(told), type(told[1]), len(told)], [tuple, tuple, 2])
        word, rows = told
        due = [r for r, row in enumerate(case) if row[0] <= day]
        if word == "each":
            self.assertEqual([type(pair) for pair in rows], [tuple] * len(due))
            self.assertEqual([r for r, _ in rows], due)
            self.assertEqual(len({name for _, name in rows}), len(due))
            self.assertEqual([name for r, name in rows if name not in case[r][1]], [])
        else:
            self.assertEqual((word, list(rows)), ("set", sorted(set(rows))))
            self.assertLessEqual(set(rows), set(due))
            self.assertGreater(len(rows), len({name for r in rows for name in case[r][1]}))
        return word

    def test_by_hand(self):
        self.assertEqual(saturated((), 0), ("each", ()))
        self.assertEqual(saturated(((5, ()),), 4), ("each", ()))
        self.assertEqual(saturated(((5, ()),), 5), ("set", (0,)))
        self.assertEqual(saturated(((5, ("ann",)), (4, ("ann",))), 4), ("each", ((1, "ann"),)))
        self.assertEqual(saturated(((5, ("ann",)), (4, ("ann",))), 5), ("set", (0, 1)))
        self.assertEqual(saturated(CHAIN, 9), ("each", ((0, "a"), (1, "b"), (2, "c"), (3, "d"))))
        # One who stands in many aheads gives way to those who have no other.
        self.assertEqual(saturated(CHAIN[::-1], 9), ("each", ((0, "d"), (1, "c"), (2, "b"), (3, "a"))))
        self.assertEqual(saturated(CHAIN[:2] + ((1, ("b", "a")),), 1), ("set", (0, 1, 2)))
        # The set has no rows that don't matter.
        self.assertEqual(saturated(((1, ABC), (1, ("dot",)), (1, ("dot",)), (1, ())), 0), ("each", ()))

    def test_all_days(self):
        rng, words = maker(71), []
        for case in BY_HAND + tuple(some_case(rng, 8, rng.choice((1, 3, 5, 8))) for _ in range(150)):
            for day in (0, 3, 5, 9, 99999):
                word = self.look(case, day)
                self.assertEqual(word == "set", slow_set(case, day), (case, day))
                words.append(word)
        self.assertGreater(min(words.count("each"), words.count("set")), 50)


class TestLongest(unittest.TestCase):
    def tell(self, case, day):
        told = longest(case)
        self.assertEqual([type(told), len(told), told[0]], [tuple, 3, day], case)
        # Point 73: every paper told is let by, and shows its day.
        self.assertEqual(lets_wait(case, told), day, (case, told))
        return told

    def test_by_hand(self):
        self.assertEqual(longest(()), (None, (), None))
        self.tell((), None)
        self.assertEqual(self.tell(((5, ()),), 5), (5, ((0, None),), (0,)))
        self.tell(((5, ()), (3, ())), 3)
        self.assertEqual(self.tell(((5, ("ann",)),), None), (None, ((0, "ann"),), None))
        self.assertEqual(self.tell(((5, ("ann",)), (7, ("ann",))), 7), (7, ((0, "ann"), (1, None)), (0, 1)))
        self.tell(((0, ("a",)), (99999, ("a",))), 99999)
        self.tell(((0, ()),), 0)

    def test_chains_and_rings(self):
        self.tell(CHAIN, None)
        self.tell(CHAIN + ((7, ("d",)),), 7)
        self.tell(CHAIN + ((2, ("a",)),), 2)
        self.tell(CHAIN + ((0, ("d", "c", "b", "a")),), 3)
        # In a ring each can have its first one, or its second one.
        self.tell(RING, None)
        self.tell(tuple((5, ahead[::-1]) for _, ahead in RING), None)
        self.tell(RING + ((2, ("a", "c")),), 4)
        self.tell(RING + ((6, ("a", "c")),), 6)

    def test_all_rows_of_one_order(self):
        self.tell(ALIKE, 9)
        self.tell(ALIKE[1:], None)
        self.tell(ALIKE + ALIKE, 7)
        self.tell(tuple((5, tuple("abcdefgh")) for _ in range(8)), None)
        self.tell(tuple((k, tuple("abcdefg")) for k in range(8)), 7)

    def test_firsts_that_are_each_others_second(self):
        # Row 2 has but the name that row 0 would rather have: row 2 must go ahead.
        self.tell(((4, ("b", "a")), (4, ("b",))), None)
        self.tell(((4, ("b", "a")), (4, ("a", "b")), (4, ("b",))), 4)
        self.tell(((9, ("a", "b", "c")), (9, ("b", "a", "c")), (2, ("a",)), (3, ("b",))), 9)

    def test_against_all_ways(self):
        rng, days = maker(73), []
        for case in BY_HAND[:-1] + tuple(some_case(rng, 4, 3, 4) for _ in range(400)):
            if all(until < 10 for until, _ in case) and len(case) < 6:
                day = slow_longest(case)
                self.assertEqual(day, slow_day(case), case)
                self.tell(case, day)
                days.append(day)
        self.assertGreater(days.count(None), 20)
        self.assertGreater(len(set(days)), 4)

    def test_against_all_sets(self):
        rng, days = maker(74), []
        cases = [tight_case(rng) for _ in range(150)] + [some_case(rng, 8, 8) for _ in range(150)] + list(BY_HAND)
        for case in cases:
            day = slow_day(case)
            told = self.tell(case, day)
            days.append(day)
            if day is not None:
                self.assertEqual(saturated(case, day)[0], "set")
                if day > 0:
                    self.assertEqual(saturated(case, day - 1)[0], "each")
                self.assertEqual([who for _, who in told[1]].count(None), 1)
        self.assertGreater(min(days.count(None), len(days) - days.count(None)), 20)

    def test_as_many_as_a_house_may_tell(self):
        # Eight rows, fifteen names in each.
        rng = maker(75)
        for _ in range(20):
            case = tuple((rng.randint(0, 9), tuple(rng.sample("abcdefghijklmno", 15))) for _ in range(8))
            self.tell(case, None)

    def test_nothing_is_changed_nor_remembered(self):
        before = copy.deepcopy(BY_HAND)
        first = [longest(case) for case in BY_HAND]
        self.assertEqual([longest(case) for case in BY_HAND[::-1]], first[::-1])
        self.assertEqual(BY_HAND, before)
