import copy
import unittest

from almsrow.books import up_to
from almsrow.errors import NoName
from almsrow.gowns import gowns
from almsrow.having import has
from tests.slow import book_of, walked_books, walked_weeks
from tests.test_counting import BOTH, DEED, pence_deed
from tests.test_house import FOLK
from tests.test_reckoning import LONG


class HasCase(unittest.TestCase):
    def have(self, text, moment, *due, name="cis", deed=DEED):
        told = has(deed, book_of(text), moment, name)
        self.assertEqual(told, due, (text, moment))
        self.assertIs(type(told), tuple)
        self.assertIn(type(told[1]), (tuple, type(None)))


class TestHas(HasCase):
    def test_housed_amid_a_day(self):
        self.have(BOTH, (10, 0), None, None, 0, 0, 0, 2)
        self.have(BOTH, (10, 1), 0, (10, 1), 0, 0, 1, 2)
        self.have(BOTH, (10, 1), None, None, 0, 0, 0, 2, name="bet")
        self.have(BOTH, (10, 2), 1, (10, 2), 0, 0, 1, 2, name="bet")
        self.have(BOTH, (13, 999), 0, (10, 1), 0, 0, 1, 2)
        self.have(BOTH, (13, 1000), 0, (10, 1), 0, 12, 1, 2)
        self.have(FOLK + "11 7 ask cis; 12 8 go bet", (12, 8), 0, (11, 7), 0, 0, 1, 2)

    def test_housed_by_a_name_or_behind_a_go(self):
        deed = pence_deed(3, sort="turn")
        self.have(FOLK + "11 5 name sir 0 cis", (11, 5), 0, (11, 5), 0, 0, 1, 2, deed=deed)
        self.have(BOTH + "11 0 ask dot; 12 8 go cis", (12, 8), 0, (12, 8), 0, 0, 1, 2, name="dot")

    def test_housed_in_an_evening(self):
        deed = pence_deed(3, sort="turn", window=1, tries=1)
        self.have(FOLK + "10 1 ask cis", (11, 999), None, None, 0, 0, 0, 2, deed=deed)
        self.have(FOLK + "10 1 ask cis", (11, 1000), 0, (11, 1000), 0, 0, 1, 2, deed=deed)
        self.have(FOLK + "10 1 ask cis", (13, 1000), 0, (11, 1000), 0, 9, 1, 2, deed=deed)
        self.have(FOLK + "10 1 ask cis", (375, 1000), 0, (11, 1000), 0, 9 + 21 * 51, 2, 2, deed=deed)

    def test_one_that_is_not_housed(self):
        for moment in ((10, 0), (13, 1000), (400, 1000)):
            self.have(LONG, moment, None, None, 0, 0, 0, 2, name="dot")
        self.have(BOTH + "11 0 ask dot", (400, 1000), None, None, 0, 0, 0, 2, name="dot")

    def test_paid_and_given_back(self):
        # In weeks 1 to 7, behind their reckonings: 12 and 21 due, see test_reckoning.
        for week, paid, owes in ((1, 12, 0), (2, 33, 0), (3, 37, 17), (4, 37, 38), (5, 56, 40), (6, 98, 19), (7, 98, 40)):
            self.have(LONG, (7 * week + 6, 1000), 0, (10, 1), paid, owes, 1, 2)
            self.have(LONG, (7 * week + 13, 999), 0, (10, 1), paid, owes, 1, 2)
        # 27 and 6 of 98 pence are given back to bet.
        self.have(LONG, (48, 1000), 1, (10, 2), 20 + 35 + 8 + 31 + 35 + 33, 33, 1, 2, name="bet")

    def test_one_that_is_gone(self):
        text = LONG + "; 50 7 go cis"
        self.have(text, (50, 6), 0, (10, 1), 98, 19, 1, 2)
        for moment in ((50, 7), (50, 1000), (400, 1000)):
            self.have(text, moment, None, None, 98, 0, 1, 2)
        # Gone out of the row, or never asked.
        for text in (FOLK + "11 0 go cis", BOTH + "11 0 ask dot; 12 0 go dot"):
            self.have(text, (400, 1000), None, None, 0, 0, 0, 2, name="cis" if "cis" in text[-6:] else "dot")
        # Days away that it had while it was housed are numbered still, later ones aren't.
        text = BOTH + "11 0 away cis 9; 12 0 go cis"
        self.have(text, (11, 999), 0, (10, 1), 0, 0, 1, 2)
        self.have(text, (11, 1000), 0, (10, 1), 0, 0, 1, 1)
        for moment in ((12, 0), (13, 1000), (363, 1000)):
            self.have(text, moment, None, None, 0, 0, 1, 1)
        self.have(text, (364, 0), None, None, 0, 0, 1, 2)

    def test_days_away_left(self):
        text = BOTH + "12 0 away cis 3"
        for moment, left in (((11, 1000), 2), ((12, 0), 2), ((12, 999), 2), ((12, 1000), 1), ((13, 0), 1), ((13, 999), 1)):
            self.have(text, moment, 0, (10, 1), 0, 0, 1, left)
        for moment in ((13, 1000), (14, 0), (14, 1000), (19, 0)):
            self.have(text, moment, 0, (10, 1), 0, 12, 1, 0)
        for away, left in ((0, 0), (1, 0), (2, 0), (3, 0), (4, 1), (60, 57)):
            self.assertEqual(has(pence_deed(3, 5, away=away), book_of(text), (20, 0), "cis")[5], left)
        # Days of which the evening doesn't find it housed cost nothing.
        self.have(FOLK + "10 0 away cis 3; 12 0 ask cis", (13, 0), 0, (12, 0), 0, 0, 1, 1)
        self.have(FOLK + "10 0 away cis 3", (13, 0), None, None, 0, 0, 0, 2)
        # Two pages, one day.
        self.have(BOTH + "12 0 away cis 1; 12 1 away cis 1", (12, 1000), 0, (10, 1), 0, 0, 1, 1)
        self.have(BOTH + "12 0 away bet 1; 12 1 away bet 1", (12, 1000), 0, (10, 1), 0, 0, 1, 2)

    def test_days_away_of_other_years(self):
        book = book_of(BOTH + "20 0 away cis 1; 362 0 away cis 3; 728 0 rent 0")
        for moment, left in (((20, 999), 2), ((20, 1000), 1), ((362, 999), 1), ((362, 1000), 0), ((363, 1000), 0),
                             ((364, 0), 2), ((364, 999), 2), ((364, 1000), 1), ((365, 0), 1), ((727, 1000), 1), ((728, 0), 2)):
            self.assertEqual(has(DEED, book, moment, "cis")[5], left, moment)

    def test_refused(self):
        book = book_of(BOTH + "20 0 folk eve ely 0 -")
        for moment, name in (((9, 1000), "cis"), ((19, 1000), "eve"), ((400, 1000), "fay"), ((400, 1000), "sir"),
                             ((400, 1000), ""), ((400, 1000), "fnd")):
            with self.assertRaises(NoName) as caught:
                has(DEED, book, moment, name)
            self.assertEqual(caught.exception.name, name)
        with self.assertRaises(NoName):
            has(DEED, (), (10, 1), "cis")
        self.assertEqual(has(DEED, book, (20, 0), "eve"), (None, None, 0, 0, 0, 2))


class TestAsTold(HasCase):
    def test_of_books_made_by_a_seed(self):
        rows = list(walked_books()) + [row[:2] + ((7 * row[2] + 6, 1000),) + row[3:] for row in walked_weeks()]
        for deed, book, moment, facts in rows:
            for name in facts["came"]:
                for some in (book, up_to(book, moment)):
                    self.assertEqual(has(deed, some, moment, name), facts["has"][name])
                self.assertEqual(len(gowns(deed, book, moment, name)), facts["has"][name][4])

    def test_nothing_is_changed_nor_remembered(self):
        rows = [(deed, book, moment, name) for deed, book, moment, facts in walked_books()[:30] for name in facts["came"]]
        before = copy.deepcopy(rows)
        first = [has(*row) for row in rows]
        self.assertEqual([has(*row) for row in rows[::-1]], first[::-1])
        self.assertEqual(rows, before)
