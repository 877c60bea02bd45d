import copy
import unittest

from almsrow.books import up_to
from almsrow.errors import NoName
from almsrow.gowns import gowns
from tests.slow import book_of, walked_books, walked_weeks
from tests.test_counting import DEED, pence_deed
from tests.test_house import FOLK

IN = FOLK + "10 1 ask cis;"


class GownsCase(unittest.TestCase):
    def tell(self, text, moment, due, deed=DEED, name="cis"):
        told = gowns(deed, book_of(text), moment, name)
        self.assertEqual(told, due, (text, moment))
        self.assertEqual([type(told)] + [type(day) for day in told], [list] + [int] * len(due))


class TestGowns(GownsCase):
    def test_the_day_of_being_housed(self):
        self.tell(IN, (10, 0), [])
        for moment in ((10, 1), (10, 999), (10, 1000), (11, 0), (373, 1000)):
            self.tell(IN, moment, [10])

    def test_housed_in_an_evening(self):
        deed = pence_deed(3, sort="turn", window=1, tries=1)
        self.tell(IN, (11, 999), [], deed)
        for moment in ((11, 1000), (12, 0), (375, 999)):
            self.tell(IN, moment, [11], deed)
        self.tell(IN, (375, 1000), [11, 375], deed)

    def test_each_so_many_days_behind_it(self):
        for moment, due in (((374, 0), [10]), ((374, 999), [10]), ((374, 1000), [10, 374]), ((375, 0), [10, 374]),
                            ((400, 1000), [10, 374])):
            self.tell(IN, moment, due)
        text = IN + "374 5 rent 7; 400 0 rent 5"
        self.tell(text, (374, 5), [10])
        self.tell(text, (738, 999), [10, 374])
        self.tell(text, (738, 1000), [10, 374, 738])

    def test_so_many_times_of_the_deed(self):
        text = IN + "400 0 rent 5"
        for gown, due in ((1, [10, 374, 738]), (2, [10, 738]), (3, [10]), (9, [10])):
            self.tell(text, (738, 1000), due, pence_deed(3, 5, gown=gown))
        self.tell(text, (738, 999), [10], pence_deed(3, 5, gown=2))
        self.tell(text, (737, 1000), [10], pence_deed(3, 5, gown=2))

    def test_one_that_is_gone(self):
        # What it had stays told; an evening that doesn't find it housed brings none.
        for moment in ("10 2", "11 0", "374 0", "374 999"):
            for asked in ((374, 1000), (400, 1000)):
                self.tell(IN + moment + " go cis", asked, [10])
        for moment in ("375 0", "400 0"):
            self.tell(IN + moment + " go cis", (374, 1000), [10, 374])
            self.tell(IN + moment + " go cis", (400, 1000), [10, 374])
            self.tell(IN + moment + " go cis", (800, 1000), [10, 374])

    def test_one_that_never_was_housed(self):
        for moment in ((10, 1), (374, 1000), (400, 1000)):
            self.tell(IN, moment, [], DEED, "bet")
            self.tell(IN + "11 0 go bet", moment, [], DEED, "bet")
        self.tell(IN + "12 0 ask bet; 13 0 ask dot", (400, 1000), [], DEED, "dot")

    def test_days_away_and_days_lost(self):
        # Away, it is housed all the same.
        self.tell(IN + "374 0 away cis 5", (374, 1000), [10, 374], pence_deed(3, 5, away=0))

    def test_refused(self):
        book = book_of(IN + "20 0 folk eve ely 0 -")
        for moment, name in (((9, 1000), "cis"), ((19, 1000), "eve"), ((400, 1000), "fay"), ((400, 1000), "sir"),
                             ((400, 1000), "")):
            with self.assertRaises(NoName) as caught:
                gowns(DEED, book, moment, name)
            self.assertEqual(caught.exception.name, name)
        self.assertEqual(gowns(DEED, book, (20, 0), "eve"), [])


class TestAsTold(GownsCase):
    def test_of_books_made_by_a_seed(self):
        rows = list(walked_books()) + [row[:2] + ((7 * row[2] + 6, 1000),) + row[3:] for row in walked_weeks()]
        for deed, book, moment, facts in rows:
            for name in facts["came"]:
                for some in (book, up_to(book, moment)):
                    self.assertEqual(gowns(deed, some, moment, name), facts["gowns"][name])

    def test_what_is_told_is_the_askers_own(self):
        book = book_of(IN)
        before = copy.deepcopy((DEED, book))
        gowns(DEED, book, (400, 1000), "cis").clear()
        gowns(DEED, book, (400, 1000), "cis").append(7)
        self.assertEqual(gowns(DEED, book, (400, 1000), "cis"), [10, 374])
        self.assertEqual((DEED, book), before)
