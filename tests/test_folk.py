import unittest

from almsrow.books import up_to
from almsrow.errors import NoName
from almsrow.folk import born_of, folk_at, gone, town_of, type_at
from almsrow.forests import is_forest
from almsrow.kinds import is_type
from tests.slow import walked_books

DEED = ("ann", (("row", 1, ()),), (("sir", 1),), (2, 2, 2, 1))
BOOK = (
    (10, 5, "folk", "bet", "york", -717, ""),
    (10, 6, "folk", "cis", "ely", 10, "bet"),
    (10, 6, "folk", "dot", "bath", -354, "eve"),
    (12, 0, "folk", "dot", "cis", -355, "cis"),
    (12, 1, "folk", "bet", "ely", 3, "cis"),
    (14, 0, "go", "bet"),
    (14, 0, "go", "fay"),
    (14, 1, "folk", "ann", "wells", -9999, "dot"),
    (14, 2, "folk", "fay", "ely", 14, "bet"),
    (15, 9, "go", "bet"),
    (15, 9, "go", "cis"),
)
END = (99999, 1000)


class TestFolk(unittest.TestCase):
    def test_who_came_as_they_came(self):
        bet, cis, dot, ann, fay = ("bet", ""), ("cis", "bet"), ("dot", "cis"), ("ann", "dot"), ("fay", "bet")
        for moment, told in (
                ((0, 0), ()), ((9, 1000), ()), ((10, 4), ()), ((10, 5), (bet,)), ((10, 6), (bet, cis)),
                ((11, 1000), (bet, cis)),
                ((12, 0), (bet, cis, dot)), ((12, 1000), (bet, cis, dot)), ((14, 0), (bet, cis, dot)),
                ((14, 1), (bet, cis, dot, ann)), ((14, 2), (bet, cis, dot, ann, fay)),
                (END, (bet, cis, dot, ann, fay))):
            self.assertEqual(folk_at(BOOK, moment), told, moment)
            self.assertIs(is_forest(folk_at(BOOK, moment)), True)
        self.assertEqual([type(part) for part in (folk_at(BOOK, END),) + folk_at(BOOK, END)], [tuple] * 6)

    def test_a_parent_of_the_same_moment(self):
        # The pages of one moment are sorted: ann stands ahead of bet.
        book = ((1, 0, "folk", "ann", "ely", 0, ""), (1, 0, "folk", "bet", "ely", 0, "ann"))
        self.assertEqual(folk_at(book, (1, 0)), (("ann", ""), ("bet", "ann")))
        book = ((1, 0, "folk", "ann", "ely", 0, "bet"), (1, 0, "folk", "bet", "ely", 0, ""))
        self.assertEqual(folk_at(book, (1, 0)), (("bet", ""),))

    def test_told_twice_stays_as_told_first(self):
        for moment in ((12, 1), END):
            self.assertEqual((town_of(BOOK, moment, "bet"), born_of(BOOK, moment, "bet")), ("york", -717))
        # The first dot had a parent that didn't come, and so didn't come itself.
        self.assertEqual((town_of(BOOK, END, "dot"), born_of(BOOK, END, "dot")), ("cis", -355))
        with self.assertRaises(NoName):
            town_of(BOOK, (11, 1000), "dot")
        self.assertEqual((town_of(BOOK, (10, 6), "cis"), born_of(BOOK, (10, 6), "cis")), ("ely", 10))

    def test_of_no_pages(self):
        self.assertEqual((folk_at((), END), gone((), END)), ((), ()))
        with self.assertRaises(NoName):
            born_of((), END, "ann")


class TestTypes(unittest.TestCase):
    def test_ages_by_whole_times_364(self):
        # Born on -717, bet is 1 up to 10, 2 from 11 on.
        for day, number, age in ((10, 5, 1), (10, 1000, 1), (11, 0, 2), (14, 3, 2), (374, 1000, 2), (375, 0, 3),
                                 (738, 9, 3), (739, 0, 4)):
            self.assertEqual(type_at(DEED, BOOK, (day, number), "bet")[:2], ("york", age), day)
        self.assertEqual(type_at(DEED, BOOK, (10, 6), "cis"), ("ely", 0, None))
        self.assertEqual(type_at(DEED, BOOK, END, "cis")[1], (99999 - 10) // 364)

    def test_ties_to_a_founder_that_comes_late(self):
        for name in ("bet", "cis", "dot"):
            self.assertIs(type_at(DEED, BOOK, (14, 0), name)[2], None)
        for name, near in (("bet", 3), ("cis", 2), ("dot", 1), ("ann", 0), ("fay", 4)):
            self.assertEqual(type_at(DEED, BOOK, (14, 2), name)[2], near)
            # GONE or not.
            self.assertEqual(type_at(DEED, BOOK, END, name)[2], near)
        self.assertEqual(type_at(DEED, BOOK, (14, 1), "ann"), ("wells", 27, 0))

    def test_of_another_founder(self):
        for founder, near in (("bet", 1), ("cis", 0), ("fay", 2), ("hob", None)):
            self.assertEqual(type_at((founder,) + DEED[1:], BOOK, END, "cis")[2], near)
        book = BOOK[:2] + ((12, 0, "folk", "hob", "ely", 0, ""),)
        self.assertEqual(type_at(("hob",) + DEED[1:], book, END, "cis")[2], None)
        self.assertEqual(type_at(("hob",) + DEED[1:], book, END, "hob")[2], 0)


class TestGone(unittest.TestCase):
    def test_by_hand(self):
        for moment, told in (((13, 1000), ()), ((14, 0), ("bet",)), ((15, 8), ("bet",)), ((15, 9), ("bet", "cis")),
                             (END, ("bet", "cis"))):
            self.assertEqual(gone(BOOK, moment), told)
        # fay didn't come yet when it was to go, and so never went.
        self.assertNotIn("fay", gone(BOOK, END))
        self.assertIs(type(gone(BOOK, END)), tuple)

    def test_names_rise(self):
        names = ("zoe", "abe", "mab")
        book = tuple((1, k, "folk", name, "ely", 0, "") for k, name in enumerate(names))
        book += tuple((2, k, "go", name) for k, name in enumerate(names))
        self.assertEqual(gone(book, END), ("abe", "mab", "zoe"))


class TestRefused(unittest.TestCase):
    def test_names_that_did_not_come(self):
        calls = (born_of, town_of, lambda *things: type_at(DEED, *things))
        for moment, names in (((9, 1000), ("bet", "cis")), ((10, 5), ("cis", "dot", "ann", "")),
                              ((13, 5), ("ann", "fay", "eve")),
                              (END, ("eve", "sir", "york", "Ann", "", "x" * 4000))):
            for name in names:
                for call in calls:
                    with self.assertRaises(NoName) as caught:
                        call(BOOK, moment, name)
                    self.assertEqual(caught.exception.name, name)


class TestAsTold(unittest.TestCase):
    def test_of_books_made_by_a_seed(self):
        for deed, book, moment, facts in walked_books():
            self.assertEqual(folk_at(book, moment), facts["folk"])
            self.assertEqual(gone(book, moment), facts["gone"])
            for name, (town, born, _) in facts["came"].items():
                self.assertEqual((town_of(book, moment, name), born_of(book, moment, name)), (town, born))
                self.assertEqual(type_at(deed, book, moment, name), facts["who"][name])
                self.assertIs(is_type(type_at(deed, book, moment, name)), True)

    def test_the_same_of_the_book_up_to_the_moment(self):
        for deed, book, moment, facts in walked_books():
            ahead = up_to(book, moment)
            self.assertEqual((folk_at(ahead, moment), gone(ahead, moment)), (facts["folk"], facts["gone"]))
            for name in facts["came"]:
                self.assertEqual(type_at(deed, ahead, moment, name), facts["who"][name])
