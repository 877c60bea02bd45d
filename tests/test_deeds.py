import copy
import unittest

from almsrow.deeds import is_deed
from tests.common import NEVER, ODD, at_place, deep, maker, places_in, put_at
from tests.slow import some_deed

GREAT = 10 ** 39
RULES = ((("town", ("ely", "york")), ("age", 60, None)), (("kin", 2),))
DEED = ("ann", (("turn", 12, RULES), ("row", 1, ())), (("bet", 3), ("bet", 1), ("cis", 20)), (30, 3, 0, 1))

DEEDS = (
    DEED,
    ("a", (("row", 1, ()),), (("a", 1),), (1, 1, 0, 1)),
    # No bounds are looked at.
    ("ann", (("turn", 12, RULES),) * 9, (("bet", 21),) * 7, (31, 4, 61, 10)),
    ("ann", (("turn", GREAT, RULES * 5),), (("bet", GREAT),), (GREAT, GREAT, GREAT, GREAT)),
    ("ann", (("row", 1, ((("age", 0, GREAT),) * 9,)),), (("bet", 1),), (1, 1, 0, 1)),
)
NO_DEEDS = (
    list(DEED), DEED[:3], DEED + (1,), ("", *DEED[1:]), ("Ann", *DEED[1:]), ("ninesigns", *DEED[1:]), (None, *DEED[1:]),
    ("ann", (), *DEED[2:]), ("ann", list(DEED[1]), *DEED[2:]), ("ann", ("turn", 12, RULES), *DEED[2:]),
    ("ann", DEED[1], (), DEED[3]), ("ann", DEED[1], list(DEED[2]), DEED[3]), ("ann", DEED[1], ("bet", 3), DEED[3]),
)


class TestIsDeed(unittest.TestCase):
    def tell(self, truth, things):
        for thing in things:
            self.assertIs(is_deed(thing), truth, repr(thing)[:300])

    def put(self, truth, way, things):
        self.tell(truth, [put_at(DEED, way, thing) for thing in things])

    def test_deeds(self):
        self.tell(True, DEEDS)
        rng = maker(40)
        self.tell(True, [some_deed(rng) for _ in range(30)])

    def test_things_that_are_none(self):
        self.tell(False, NO_DEEDS)
        self.tell(False, ODD + (deep(30), deep(29), ["x" * 4000], tuple(range(4990))))

    def test_rows_of_places(self):
        self.put(False, (1, 0), (("turn", 12), ("turn", 12, (), ()), ["turn", 12, ()], None, (), "turn"))
        self.put(False, (1, 0, 0), ("", "Turn", "rows", "turn ", None, ("turn",), ["row"], 0))
        self.put(True, (1, 0, 0), ("turn", "row"))
        self.put(False, (1, 0, 1), (0, -1, -GREAT, True, None, "1", (1,)))
        self.put(True, (1, 0, 1), (1, 2, GREAT))
        self.put(False, (1, 0, 2), (None, [], ((),), (("kin", 2),), ((("kin", -1),),), ((("age", 3, 3),),), "", 0))
        self.put(False, (1, 1), (("row", 0, ()), ("rows", 1, ()), ("row", 1, None)))

    def test_rows_of_seats(self):
        self.put(False, (2, 0), (("bet",), ("bet", 1, 1), ["bet", 1], None, (), "bet"))
        self.put(False, (2, 2, 0), ("", "Bet", "ninesigns", None, ("bet",), 1))
        self.put(False, (2, 2, 1), (0, -1, True, False, None, "1", (1,)))
        self.put(True, (2, 2, 1), (1, 2, GREAT))

    def test_the_least_values_of_terms(self):
        self.put(True, (3,), ((1, 1, 0, 1), (2, 2, 2, 2)))
        self.put(False, (3,), ((0, 1, 0, 1), (1, 0, 0, 1), (1, 1, -1, 1), (1, 1, 0, 0), (-5, 1, 0, 1), (1, 1, 0, -1)))
        self.put(False, (3,), ((1, 1, 0), (1, 1, 0, 1, 1), [1, 1, 0, 1], (), None, 1))
        for k in range(4):
            self.put(False, (3, k), (True, False, None, "1", (1,), [1]))

    def test_other_kinds_at_any_depth(self):
        for way in places_in(DEED):
            for never in NEVER:
                # () are RULES.
                if not (never == () and len(way) == 3 and way[0] == 1 and way[2] == 2):
                    self.put(False, way, (never,))
            if isinstance(at_place(DEED, way), tuple):
                self.put(False, way, (list(at_place(DEED, way)),))

    def test_nothing_is_changed(self):
        things = [list(DEED), [["ann"], [["turn", 1, []]], [["bet", 1]], [1, 1, 0, 1]]]
        before = copy.deepcopy(things)
        for thing in things:
            is_deed(thing)
        self.assertEqual(things, before)
