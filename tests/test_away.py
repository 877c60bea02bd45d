import unittest

from almsrow.away import away_days, lost_days
from almsrow.books import up_to
from almsrow.errors import NoName
from tests.slow import book_of, walked_books
from tests.test_house import FOLK, deed_of

# Whoever asks is housed; two days away of a year cost nothing.
DEED = deed_of(("row", ()), ("row", ()), terms=(2, 2, 2, 1))
END = (800, 1000)


def days(start, end):
    return list(range(start, end + 1))


class AwayCase(unittest.TestCase):
    def tell(self, text, away, lost, moment=END, deed=DEED):
        book = book_of(FOLK + text)
        told = (away_days(deed, book, moment, "bet"), lost_days(deed, book, moment, "bet"))
        self.assertEqual(told, (away, lost), (text, moment))
        self.assertEqual([type(part) for part in told], [list, list])


class TestDaysAway(AwayCase):
    def test_of_none(self):
        self.tell("", [], [])
        self.tell("10 1 ask bet; 11 0 away cis 5", [], [])
        self.tell("11 0 away eve 5; 12 0 go bet; 12 1 away bet 5", [], [])

    def test_that_day_and_the_next_ones_later_days_too(self):
        self.tell("12 7 away bet 1", [12], [], (12, 7))
        self.tell("12 7 away bet 4", [], [], (12, 6))
        self.tell("12 7 away bet 4", [12, 13, 14, 15], [], (12, 7))
        self.tell("12 7 away bet 4", [12, 13, 14, 15], [])

    def test_each_once_where_pages_overlap(self):
        self.tell("12 0 away bet 4; 14 0 away bet 1; 14 1 away bet 5; 30 0 away bet 2", days(12, 18) + [30, 31], [])
        self.tell("12 0 away bet 9; 14 0 away bet 1", days(12, 20), [])
        self.tell("12 0 away bet 3; 12 0 away bet 5", days(12, 16), [])

    def test_behind_the_going_and_behind_the_last_day(self):
        self.tell("10 1 ask bet; 12 0 away bet 4; 13 0 go bet", days(12, 15), [])
        book = book_of("99990 0 folk bet ely 0 -; 99990 1 ask bet; 99998 0 away bet 5")
        self.assertEqual(away_days(DEED, book, (99999, 1000), "bet"), days(99998, 100002))
        self.assertEqual(lost_days(DEED, book, (99999, 1000), "bet"), [])
        deed = deed_of(("row", ()), terms=(2, 2, 0, 1))
        self.assertEqual(lost_days(deed, book, (99999, 1000), "bet"), [99998, 99999])


class TestLostDays(AwayCase):
    def test_more_than_so_many_of_a_year(self):
        text = "10 1 ask bet; 12 0 away bet 5"
        self.tell(text, days(12, 16), [14, 15, 16])
        self.tell("10 1 ask bet; 12 0 away bet 2", [12, 13], [])
        for many, lost in ((0, days(12, 16)), (1, days(13, 16)), (4, [16]), (5, []), (60, [])):
            self.tell(text, days(12, 16), lost, END, deed_of(("row", ()), terms=(2, 2, many, 1)))

    def test_those_whose_evening_is_walked(self):
        text = "10 1 ask bet; 12 0 away bet 5"
        for moment, lost in (((12, 0), []), ((13, 1000), []), ((14, 999), []), ((14, 1000), [14]), ((15, 0), [14]),
                             ((15, 1000), [14, 15]), ((16, 999), [14, 15]), ((17, 0), [14, 15, 16])):
            self.tell(text, days(12, 16), lost, moment)

    def test_of_several_pages_each_day_once(self):
        self.tell("10 1 ask bet; 12 0 away bet 1; 20 0 away bet 1; 30 0 away bet 1; 40 0 away bet 2",
                  [12, 20, 30, 40, 41], [30, 40, 41])
        self.tell("10 1 ask bet; 12 0 away bet 3; 13 0 away bet 3", days(12, 15), [14, 15])
        self.tell("10 1 ask bet; 12 0 away bet 1; 12 1 away bet 1; 12 2 away bet 1", [12], [])

    def test_days_ahead_of_being_housed(self):
        # Not numbered among the first so many, nor lost.
        self.tell("11 0 away bet 6; 14 0 ask bet", days(11, 16), [16])
        self.tell("11 0 away bet 6", days(11, 16), [])
        self.tell("11 0 away bet 3; 20 0 ask bet; 21 0 away bet 3", days(11, 13) + days(21, 23), [23])

    def test_one_who_came_in_in_an_evening(self):
        # In the evening of 11 the place has fallen: it is one of hers already.
        deed = deed_of(("turn", ()), terms=(1, 1, 2, 1))
        self.tell("10 1 ask bet; 10 2 away bet 4", days(10, 13), [13], END, deed)

    def test_days_behind_the_going(self):
        self.tell("10 1 ask bet; 12 0 away bet 9; 15 0 go bet", days(12, 20), [14])
        self.tell("10 1 ask bet; 12 0 away bet 9; 14 0 go bet", days(12, 20), [])
        deed = deed_of(("row", ()), terms=(2, 2, 0, 1))
        self.tell("12 0 ask bet; 12 1 away bet 9; 12 2 go bet", days(12, 20), [], END, deed)
        self.tell("11 0 away bet 9; 12 0 ask bet; 13 2 go bet", days(11, 19), [12], END, deed)

    def test_a_years_end_amid_one_pages_days(self):
        # The years begin on 0, 364, 728: each has its two days.
        self.tell("10 1 ask bet; 360 0 away bet 8", days(360, 367), [362, 363, 366, 367])
        self.tell("10 1 ask bet; 362 0 away bet 4", days(362, 365), [])
        self.tell("10 1 ask bet; 20 0 away bet 2; 363 0 away bet 4", [20, 21] + days(363, 366), [363, 366])
        self.tell("10 1 ask bet; 363 0 away bet 368", days(363, 730), days(366, 727) + [730])

    def test_two_names_have_each_their_own(self):
        book = book_of(FOLK + "10 1 ask bet; 10 2 ask cis; 12 0 away bet 3; 12 0 away cis 2; 14 0 away cis 2")
        self.assertEqual(lost_days(DEED, book, END, "bet"), [14])
        self.assertEqual(lost_days(DEED, book, END, "cis"), [14, 15])
        self.assertEqual(lost_days(DEED, book, END, "dot"), [])


class TestRefused(unittest.TestCase):
    def test_names_that_did_not_come(self):
        book = book_of(FOLK + "11 0 folk eve ely 0 -; 11 1 away fay 3")
        for moment, names in (((9, 1000), ("bet", "")), ((10, 1000), ("eve", "fay", "sir")),
                              (END, ("fay", "sir", "fnd", "Bet", "x" * 4000))):
            for name in names:
                for call in (away_days, lost_days):
                    with self.assertRaises(NoName) as caught:
                        call(DEED, book, moment, name)
                    self.assertEqual(caught.exception.name, name)
        self.assertEqual(away_days(DEED, book, END, "eve"), [])


class TestAsTold(unittest.TestCase):
    def test_of_books_made_by_a_seed(self):
        for deed, book, moment, facts in walked_books():
            for some in (book, up_to(book, moment)):
                for name in facts["came"]:
                    self.assertEqual(away_days(deed, some, moment, name), facts["away"][name])
                    self.assertEqual(lost_days(deed, some, moment, name), facts["lost"][name])

    def test_what_is_told_is_the_askers_own(self):
        book = book_of(FOLK + "10 1 ask bet; 12 0 away bet 5")
        for call in (away_days, lost_days):
            due = call(DEED, book, END, "bet")
            told = call(DEED, book, END, "bet")
            told.append(7)
            told.pop(0)
            self.assertEqual(call(DEED, book, END, "bet"), due)
