import copy
import unittest

from almsrow.books import in_order, up_to
from almsrow.counting import dues
from almsrow.errors import NoWeek
from almsrow.reckoning import chest, owed, struck, week_paper
from almsrow.sums import sums
from tests.common import maker
from tests.slow import NAMES, book_of, walked_weeks
from tests.test_counting import BOTH, DEED
from tests.test_reckoning import LONG


class TestSums(unittest.TestCase):
    def tell(self, text, week, *due):
        told = sums(DEED, book_of(text), week)
        self.assertEqual(told, due, (text, week))
        self.assertEqual([type(told)] + [type(part) for part in told], [tuple] + [int] * 6)

    def test_by_hand(self):
        self.tell(LONG, 1, 100, 32, 0, 0, 0, 68)
        self.tell(LONG, 2, 100, 88, 0, 0, 0, 12)
        self.tell(LONG, 3, 100, 100, 0, 44, 0, 0)
        self.tell(LONG, 5, 150, 150, 0, 106, 0, 0)
        self.tell(LONG, 6, 260, 206, 54, 52, 0, 0)
        self.tell(LONG + "; 50 7 go bet", 7, 260, 206, 54, 40, 33, 0)
        self.tell(LONG + "; 50 7 go bet; 55 0 rent 999", 7, 1259, 227, 73, 0, 33, 959)
        self.tell("10 0 rent 5", 1, 5, 0, 0, 0, 0, 5)
        self.tell("10 0 rent 5; 14 0 rent 6", 1, 5, 0, 0, 0, 0, 5)
        self.tell("10 0 ask bet", 1, 0, 0, 0, 0, 0, 0)
        self.tell(BOTH, 1, 0, 0, 0, 32, 0, 0)

    def test_refused(self):
        for book, week in ((book_of(LONG), 0), (book_of(LONG), -1), ((), 1), ((), 0)):
            with self.assertRaises(NoWeek) as caught:
                sums(DEED, book, week)
            self.assertEqual(caught.exception.week, week)

    def test_of_books_made_by_a_seed(self):
        for deed, book, week, facts in walked_weeks():
            for some in (book, up_to(book, (7 * week + 6, 1000))):
                self.assertEqual(sums(deed, some, week), facts["sums"])

    def test_what_is_told_else(self):
        """Both equations, and each of the six as it is told elsewhere."""
        papers = {}
        for deed, book, week, _ in walked_weeks():
            some = papers.setdefault((deed, book), [])
            some.append(week_paper(deed, book, week))
            rents, paid, back, debts, out, left = sums(deed, book, week)
            self.assertEqual(rents, paid + back + left)
            self.assertEqual(sum(row[1] for paper in some for row in paper[0]), paid + back + debts + out)
            self.assertEqual(rents, sum(page[3] for page in book if page[2] == "rent" and page[0] <= 7 * week + 6))
            self.assertEqual(paid, sum(row[1] for paper in some for row in paper[1]))
            self.assertEqual(back, sum(row[2] for paper in some for row in paper[2]))
            self.assertEqual(debts, sum(row[2] for row in owed(deed, book, week)))
            self.assertEqual(out, sum(row[2] for row in struck(deed, book, week)))
            self.assertEqual(left, chest(deed, book, week))

    def test_nothing_is_changed(self):
        rows = [row[:3] for row in walked_weeks()[:20]]
        before = copy.deepcopy(rows)
        for row in rows:
            self.assertEqual(sums(*row), sums(*row))
        self.assertEqual(rows, before)


class TestAPageMore(unittest.TestCase):
    """What comes of a page "away" more, or of a penny more in a rent."""

    def test_away(self):
        rng, less = maker(67), 0
        weeks = {}
        for deed, book, week, _ in walked_weeks():
            weeks.setdefault((deed, book), []).append(week)
        for (deed, book), some in weeks.items():
            for _ in range(4):
                first, last = book[0][0], book[-1][0]
                name = rng.choice(NAMES)
                page = (rng.randint(first, last), rng.randint(0, 999), "away", name, rng.choice((1, 2, 5, 30)))
                for week in some:
                    old, new = dict(dues(deed, book, week)), dict(dues(deed, in_order(book + (page,)), week))
                    self.assertEqual(list(old), list(new))
                    less += old != new
                    for other in old:
                        self.assertLessEqual(new[other], old[other])
                        if other != name:
                            self.assertEqual(new[other], old[other])
        self.assertGreater(less, 10)

    def test_a_penny_more(self):
        seen = {"owed": 0, "chest": 0}
        for deed, book, week, _ in walked_weeks():
            for page in book:
                late = [other[2] for other in book if other > page and other[:2] >= page[:2]]
                if page[2] != "rent" or page[0] // 7 > week or "go" in late or page[:3] + (page[3] + 1,) in book:
                    continue
                more = in_order([other for other in book if other != page] + [page[:3] + (page[3] + 1,)])
                old, new = sums(deed, book, week), sums(deed, more, week)
                if old[3]:
                    self.assertEqual((new[3], new[5]), (old[3] - 1, old[5]))
                    seen["owed"] += 1
                else:
                    self.assertEqual((new[3], new[5]), (0, old[5] + 1))
                    seen["chest"] += 1
        self.assertGreater(min(seen.values()), 10, seen)
