import copy
import unittest

from almsrow.books import up_to
from almsrow.counting import counted, dues
from almsrow.errors import NoName, NoWeek
from tests.slow import book_of, walked_weeks
from tests.test_house import FOLK, SEATS


def pence_deed(*rates, sort="row", window=2, tries=2, away=2, gown=1):
    """Places without rules; nobody who is named in FOLK has a seat."""
    return ("fnd", tuple((sort, rate, ()) for rate in rates), SEATS, (window, tries, away, gown))


DEED = pence_deed(3, 5)
# WEEK 1 are the days 7 to 13, week 2 those from 14 to 20.
BOTH = FOLK + "10 1 ask cis; 10 2 ask bet;"


class CountingCase(unittest.TestCase):
    def count(self, text, name, deed=DEED, **due):
        """Of each week, w1 for the week 1, how many days are counted."""
        told = {week: counted(deed, book_of(text), int(week[1:]), name) for week in due}
        self.assertEqual(told, due, (text, name))

    def due(self, text, deed=DEED, **due):
        told = {week: dues(deed, book_of(text), int(week[1:])) for week in due}
        self.assertEqual(told, due, text)
        self.assertEqual({type(row) for rows in told.values() for row in rows} | {tuple}, {tuple})
        self.assertEqual({type(rows) for rows in told.values()}, {tuple})


class TestCounted(CountingCase):
    def test_from_the_day_of_coming_in_on(self):
        self.count(BOTH, "cis", w1=4, w2=7, w3=7, w58=7)
        self.count(FOLK + "13 999 ask cis", "cis", w1=1, w2=7)
        self.count(FOLK + "14 0 ask cis", "cis", w1=0, w2=7)
        self.count(FOLK + "20 5 ask cis", "cis", w1=0, w2=1, w3=7)
        self.count(BOTH, "dot", w1=0, w2=0, w58=0)

    def test_one_who_came_in_in_an_evening(self):
        # Given out in the evening of 10, spent in that of the last day.
        for window, due in ((1, 3), (2, 2), (3, 1), (4, 0)):
            deed = pence_deed(3, sort="turn", window=window, tries=1)
            self.count(FOLK + "10 1 ask cis", "cis", deed, w1=due, w2=7)

    def test_one_who_goes_amid_a_week(self):
        for day, due in ((14, 0), (15, 1), (18, 4), (20, 6), (21, 7)):
            self.count(BOTH + f"{day} 7 go cis", "cis", w1=4, w2=due)
        self.count(BOTH + "18 7 go cis", "cis", w1=4, w2=4, w3=0, w58=0)
        self.count(FOLK + "10 1 ask cis; 10 2 go cis", "cis", w1=0, w2=0)
        # One who came in in its place is counted from that day on.
        self.count(BOTH + "15 0 ask dot; 18 7 go cis", "dot", w1=0, w2=3, w3=7)

    def test_days_away(self):
        self.count(BOTH + "15 0 away cis 1", "cis", w2=7)
        self.count(BOTH + "15 0 away cis 2", "cis", w2=7)
        self.count(BOTH + "15 0 away cis 5", "cis", w1=4, w2=4, w3=7)
        self.count(BOTH + "19 0 away cis 9", "cis", w2=7, w3=0, w4=7)
        self.count(BOTH + "15 0 away cis 5", "bet", w2=7)
        # All days of this year count, those of other weeks, too.
        self.count(BOTH + "11 0 away cis 1; 15 0 away cis 3; 22 0 away cis 1", "cis", w1=4, w2=5, w3=6)
        # Days ahead of its being housed are none of the first so many.
        self.count(FOLK + "10 0 away cis 6; 13 0 ask cis", "cis", w1=1, w2=6)
        self.count(BOTH + "15 0 away cis 5; 18 5 go cis", "cis", w2=3)
        self.count(BOTH + "15 0 away cis 5", "cis", pence_deed(3, 5, away=0), w2=2)
        self.count(BOTH + "14 0 away cis 7", "cis", pence_deed(3, 5, away=0), w2=0)
        self.count(BOTH + "14 0 away cis 7", "cis", pence_deed(3, 5, away=6), w2=6)

    def test_a_years_end(self):
        # 364 is 52 weeks: the year ends with week 51, the numbering begins anew with week 52.
        self.count(BOTH + "360 0 away cis 8", "cis", w50=7, w51=5, w52=5, w53=7)
        self.count(BOTH + "362 0 away cis 4", "cis", w51=7, w52=7)
        self.count(BOTH + "20 0 away cis 2; 363 0 away cis 4", "cis", w2=7, w3=7, w51=6, w52=6)

    def test_refused(self):
        for week in (0, -1, -10 ** 59):
            for name in ("cis", "nobody", ""):
                with self.assertRaises(NoWeek) as caught:
                    counted(DEED, book_of(BOTH), week, name)
                self.assertEqual(caught.exception.week, week)
        for week in (0, 1, 14285, -1):
            with self.assertRaises(NoWeek):
                counted(DEED, (), week, "cis")
        book = book_of(BOTH + "14 0 folk eve ely 0 -")
        for week, name in ((1, "eve"), (1, "fnd"), (2, "sir"), (3, ""), (3, "x" * 4000)):
            with self.assertRaises(NoName) as caught:
                counted(DEED, book, week, name)
            self.assertEqual(caught.exception.name, name)
        self.assertEqual(counted(DEED, book, 2, "eve"), 0)


class TestDues(CountingCase):
    def test_rates_and_names_that_rise(self):
        # cis is in place 0 of rate 3.
        self.due(BOTH, w1=(("bet", 20), ("cis", 12)), w2=(("bet", 35), ("cis", 21)), w58=(("bet", 35), ("cis", 21)))
        self.due(FOLK + "10 1 ask dot", w1=(("dot", 12),), w2=(("dot", 21),))

    def test_who_is_housed_in_the_last_evening(self):
        for day in (14, 18, 20):
            self.due(BOTH + f"{day} 7 go cis", w1=(("bet", 20), ("cis", 12)), w2=(("bet", 35),))
        self.due(BOTH + "21 0 go cis", w2=(("bet", 35), ("cis", 21)), w3=(("bet", 35),))
        self.due(BOTH + "15 0 ask dot; 18 7 go cis", w2=(("bet", 35), ("dot", 9)))
        for window, due in ((1, (("cis", 9),)), (3, (("cis", 3),)), (4, ())):
            self.due(FOLK + "10 1 ask cis", pence_deed(3, sort="turn", window=window, tries=1), w1=due)

    def test_nothing_due(self):
        # 0 pence are told.
        deed = pence_deed(3, 5, away=0)
        self.due(BOTH + "14 0 away cis 7", deed, w1=(("bet", 20), ("cis", 12)), w2=(("bet", 35), ("cis", 0)))
        self.due(BOTH + "14 0 away cis 7; 14 1 away bet 9", deed, w2=(("bet", 0), ("cis", 0)), w3=(("bet", 25), ("cis", 21)))

    def test_nobody_housed(self):
        self.due(FOLK, w1=(), w2=(), w58=())
        self.due("10 0 rent 5", w1=())
        self.due(BOTH + "15 0 go cis; 20 0 go bet", w1=(("bet", 20), ("cis", 12)), w2=(), w3=())

    def test_weeks_reckoned(self):
        for day in (7, 10, 13):
            book = book_of(f"{day} 999 rent 5")
            self.assertEqual(dues(DEED, book, 1), ())
            for week in (0, -1, -10 ** 59):
                with self.assertRaises(NoWeek) as caught:
                    dues(DEED, book, week)
                self.assertEqual(caught.exception.week, week)
        for week in (0, 1, 58, -1):
            with self.assertRaises(NoWeek):
                dues(DEED, (), week)
        self.assertEqual(dues(DEED, book_of("0 0 rent 0"), 0), ())

    def test_the_last_weeks(self):
        self.due("99982 0 folk bet ely 0 -; 99990 1 ask bet", w14284=(("bet", 15),), w14283=())


class TestAsTold(CountingCase):
    def test_of_books_made_by_a_seed(self):
        for deed, book, week, facts in walked_weeks():
            for some in (book, up_to(book, (7 * week + 6, 1000))):
                self.assertEqual(dues(deed, some, week), facts["papers"][week][0])
                self.assertEqual({name: counted(deed, some, week, name) for name in facts["came"]}, facts["counted"])

    def test_nothing_is_changed_nor_remembered(self):
        rows = [row[:3] for row in walked_weeks()[:60]]
        before = copy.deepcopy(rows)
        first = [dues(*row) for row in rows]
        self.assertEqual([dues(*row) for row in rows[::-1]], first[::-1])
        self.assertEqual(rows, before)
