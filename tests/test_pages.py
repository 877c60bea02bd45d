import copy
import unittest

from almsrow.pages import is_moment, is_page, page_moment
from tests.common import NEVER, ODD, at_place, deep, places_in, put_at

GREAT = 10 ** 59

MOMENTS = ((0, 0), (0, 1000), (99999, 0), (99999, 1000), (12, 999), (7, 1))
NO_MOMENTS = (
    (-1, 0), (100000, 0), (0, -1), (0, 1001), (GREAT, 0), (0, GREAT), (True, 0), (0, True), (False, False), (0, None),
    (None, 0), ("0", 0), (0, "0"), ((0,), 0), (0,), (0, 0, 0), [0, 0], (), (0, [0]),
)
PAGES = (
    (12, 0, "folk", "ann", "ely", -20020, ""), (12, 0, "folk", "ann", "ann", 12, "bet"),
    (0, 999, "folk", "a", "b", 0, "c"),
    (12, 3, "heir", "ann", "bet"), (12, 3, "sell", "ann", "bet"), (12, 3, "away", "ann", 1),
    (12, 3, "away", "ann", GREAT),
    (12, 3, "rent", 0), (12, 3, "rent", GREAT), (12, 3, "ask", "ann"), (12, 3, "name", "ann", 0, "bet"),
    (12, 3, "name", "ann", GREAT, "ann"), (99999, 999, "go", "ann"), (5, 5, "folk", "name", "go", -GREAT, "rent"),
)
NO_PAGES = (
    (), (12,), (12, 3), (12, 3, "rent"), (12, 3, "rents", 5), (12, 3, "", "ann"), (12, 3, None, "ann"),
    (12, 3, "Ask", "ann"),
    (12, 3, ("ask",), "ann"), (12, 3, ["ask"], "ann"), (12, 3, "stay", "ann"), (12, 3, "town", ("ely",)),
    ((12, 3), "ask", "ann"),
    # Days and numbers.
    (-1, 3, "ask", "ann"), (100000, 3, "ask", "ann"), (12, -1, "ask", "ann"), (12, 1000, "ask", "ann"),
    (12, 1001, "ask", "ann"),
    (True, 3, "ask", "ann"), (12, True, "ask", "ann"), (12, False, "rent", 1), (None, 3, "ask", "ann"),
    (12, "3", "ask", "ann"),
    # Folk.
    (12, 0, "folk", "ann", "ely", 13, ""), (0, 0, "folk", "ann", "ely", 1, ""), (12, 0, "folk", "ann", "ely", True, ""),
    (12, 0, "folk", "ann", "ely", None, ""), (12, 0, "folk", "ann", "ely", 0, "ann"),
    (12, 0, "folk", "ann", "ely", 0, "-"),
    (12, 0, "folk", "ann", "ely", 0, None), (12, 0, "folk", "ann", "ely", 0), (12, 0, "folk", "ann", "ely", 0, "", ""),
    (12, 0, "folk", "Ann", "ely", 0, ""), (12, 0, "folk", "", "ely", 0, ""), (12, 0, "folk", "ann", "", 0, ""),
    (12, 0, "folk", "ann", "Ely", 0, ""), (12, 0, "folk", "ann", "ely", 0, "ninesigns"),
    (12, 0, "folk", "ann", "ely", 0, 0),
    # Two names.
    (12, 3, "heir", "ann", "ann"), (12, 3, "sell", "ann", "ann"), (12, 3, "heir", "ann"), (12, 3, "heir", "ann", ""),
    (12, 3, "sell", "", "ann"), (12, 3, "sell", "ann", "bet", "cis"), (12, 3, "heir", "ann", None),
    (12, 3, "sell", 1, "ann"),
    # Numbers.
    (12, 3, "away", "ann", 0), (12, 3, "away", "ann", -1), (12, 3, "away", "ann", True), (12, 3, "away", "ann"),
    (12, 3, "away", "ann", "1"), (12, 3, "away", "ann", 1, 1), (12, 3, "away", 1, "ann"), (12, 3, "away", "", 1),
    (12, 3, "rent", -1), (12, 3, "rent", True), (12, 3, "rent", False), (12, 3, "rent", None), (12, 3, "rent", 1, 1),
    (12, 3, "rent", "ann"), (12, 3, "rent", "ann", 1), (12, 3, "rent", "1"),
    # One name, and namings.
    (12, 3, "ask"), (12, 3, "ask", ""), (12, 3, "ask", "ann", "bet"), (12, 3, "ask", 1), (12, 3, "go", "Ann"),
    (12, 3, "go"),
    (12, 3, "go", "ann", ""), (12, 3, "go", ("ann",)), (12, 3, "name", "ann", -1, "bet"),
    (12, 3, "name", "ann", True, "bet"),
    (12, 3, "name", "ann", "bet"), (12, 3, "name", "ann", "bet", 0), (12, 3, "name", "ann", 0, ""),
    (12, 3, "name", "", 0, "bet"),
    (12, 3, "name", "ann", None, "bet"), (12, 3, "name", "ann", 0, "bet", 0), (12, 3, "name", "ann", 0),
    (12, 3, "name", "ann", 0, 1),
)


class TestMoments(unittest.TestCase):
    def test_moments_and_things_that_are_none(self):
        for thing in MOMENTS:
            self.assertIs(is_moment(thing), True, thing)
        for thing in NO_MOMENTS + ODD + PAGES + (deep(30), deep(29)):
            self.assertIs(is_moment(thing), False, thing)


class TestPages(unittest.TestCase):
    def tell(self, truth, things):
        for thing in things:
            self.assertIs(is_page(thing), truth, thing)

    def test_pages(self):
        self.tell(True, PAGES)
        # Born on the day itself, and one more; the day decides.
        self.tell(True, [(day, 0, "folk", "ann", "ely", day, "") for day in (0, 1, 364, 99999)])
        self.tell(False, [(day, 0, "folk", "ann", "ely", day + 1, "") for day in (0, 1, 364, 99999)])

    def test_things_that_are_none(self):
        self.tell(False, NO_PAGES)
        self.tell(False, ODD + MOMENTS + (deep(30), deep(29), (1, 2, deep(9))))

    def test_one_more_and_one_less(self):
        for page in PAGES:
            self.tell(False, (page + ("",), page + ("bet",), page + (1,), page[:-1], page[1:], list(page)))

    def test_other_kinds_at_any_depth(self):
        for page in PAGES:
            for way in places_in(page):
                for never in NEVER:
                    born = page[2] == "folk" and way == (5,)
                    parent = page[2] == "folk" and way == (6,)
                    town_or_name = never == "ely" and way
                    # A born may be below 0, a parent may be none.
                    if not (born and never == -1) and not (parent and never == "") and not town_or_name:
                        self.tell(False, (put_at(page, way, never),))
                if isinstance(at_place(page, way), str):
                    self.tell(False, [put_at(page, way, (at_place(page, way),)),
                                      put_at(page, way, [at_place(page, way)])])

    def test_their_moments(self):
        self.assertEqual(page_moment((12, 0, "folk", "ann", "ely", -20020, "")), (12, 0))
        self.assertEqual(page_moment((99999, 999, "go", "ann")), (99999, 999))
        for page in PAGES:
            self.assertEqual(page_moment(page), (page[0], page[1]))
            self.assertIs(type(page_moment(page)), tuple)

    def test_nothing_is_changed(self):
        things = [[12, 3, "ask", "ann"], (12, 3, ["ask"], ["ann"]), [[12], 3]]
        before = copy.deepcopy(things)
        for thing in things:
            is_page(thing)
            is_moment(thing)
        self.assertEqual(things, before)
