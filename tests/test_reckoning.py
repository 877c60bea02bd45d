import copy
import unittest

from almsrow.books import up_to
from almsrow.errors import NoWeek
from almsrow.reckoning import chest, owed, struck, week_paper
from tests.slow import book_of, walked_weeks
from tests.test_counting import BOTH, DEED, pence_deed
from tests.test_house import FOLK

CALLS = (week_paper, owed, chest, struck)

# Week 1 has four days for both, in all 32 pence; each later week 56: bet 35, cis 21.
LONG = BOTH + "10 9 rent 100; 36 0 rent 50; 43 5 rent 60; 47 999 rent 50; 48 0 rent 0"


class ReckoningCase(unittest.TestCase):
    def reckon(self, text, week, paper, debts=(), left=0, out=(), deed=DEED):
        told = [call(deed, book_of(text), week) for call in CALLS]
        self.assertEqual(told, [paper, list(debts), left, list(out)], (text, week))
        self.assertEqual([type(part) for part in told], [tuple, list, int, list])
        self.assertEqual({type(row) for part in paper for row in part} | {tuple}, {tuple})


class TestPaid(ReckoningCase):
    def test_a_chest_that_has_all(self):
        both = (("bet", 20), ("cis", 12))
        for pence in (32, 33, 10 ** 9):
            self.reckon(BOTH + f"10 3 rent {pence}", 1, (both, both, ()), (), pence - 32)
        # Nothing due of one: nothing paid, and it is told.
        deed = pence_deed(3, 5, away=0)
        self.reckon(BOTH + "10 3 rent 20; 10 4 away cis 4", 1, ((("bet", 20), ("cis", 0)),) * 2 + ((),), deed=deed)

    def test_a_chest_that_has_a_part(self):
        both = (("bet", 20), ("cis", 12))
        for pence, paid in ((31, (19, 12)), (16, (10, 6)), (1, (1, 0)), (2, (1, 1)), (4, (3, 1)), (12, (8, 4))):
            rows = (("bet", paid[0]), ("cis", paid[1]))
            debts = [(1, name, due - row) for (name, due), row in zip(both, paid) if due != row]
            self.reckon(BOTH + f"10 3 rent {pence}", 1, (both, rows, ()), debts)
        # Of one due of 0 no share.
        deed = pence_deed(3, 5, away=0)
        self.reckon(BOTH + "10 3 rent 19; 10 4 away cis 4", 1, ((("bet", 20), ("cis", 0)), (("bet", 19), ("cis", 0)), ()),
                    [(1, "bet", 1)], deed=deed)

    def test_a_chest_that_has_nothing(self):
        both = (("bet", 20), ("cis", 12))
        for text in ("", "10 3 rent 0", "14 0 rent 500"):
            self.reckon(BOTH + text, 1, (both, (("bet", 0), ("cis", 0)), ()), [(1, "bet", 20), (1, "cis", 12)])

    def test_nobody_housed(self):
        self.reckon(FOLK, 1, ((), (), ()))
        self.reckon(FOLK + "10 1 rent 7", 58, ((), (), ()), (), 7)
        # All are away, and lose it: nothing is due, and nothing is owed.
        deed = pence_deed(3, 5, away=0)
        self.reckon(BOTH + "10 4 away bet 4; 10 4 away cis 4", 1, ((("bet", 0), ("cis", 0)),) * 2 + ((),), deed=deed)

    def test_rents_amid_the_week_and_behind_it(self):
        both = (("bet", 20), ("cis", 12))
        for moment in ("10 3", "12 0", "13 999"):
            self.reckon(BOTH + moment + " rent 40", 1, (both, both, ()), (), 8)
        late = BOTH + "14 0 rent 40"
        self.reckon(late, 1, (both, (("bet", 0), ("cis", 0)), ()), [(1, "bet", 20), (1, "cis", 12)])
        self.reckon(late, 2, ((("bet", 35), ("cis", 21)), (("bet", 25), ("cis", 15)), ()),
                    [(1, "bet", 20), (1, "cis", 12), (2, "bet", 10), (2, "cis", 6)])
        # Nobody needs to be housed for it, and pages may be idle.
        self.reckon("10 0 rent 3; 10 1 rent 3; 12 0 go bet; 12 2 rent 4", 1, ((), (), ()), (), 10)


class TestOwed(ReckoningCase):
    WEEK = (("bet", 35), ("cis", 21))
    LACKS = [(3, "bet", 28), (3, "cis", 16), (4, "bet", 35), (4, "cis", 21)]

    def test_week_by_week(self):
        self.reckon(LONG, 1, ((("bet", 20), ("cis", 12)),) * 2 + ((),), (), 68)
        self.reckon(LONG, 2, (self.WEEK, self.WEEK, ()), (), 12)
        # 12 by 35 and 21 of 56: 7 and 4, as much left of both, the one ahead has it.
        self.reckon(LONG, 3, (self.WEEK, (("bet", 8), ("cis", 4)), ()), [(3, "bet", 27), (3, "cis", 17)])
        self.reckon(LONG, 4, (self.WEEK, (("bet", 0), ("cis", 0)), ()),
                    [(3, "bet", 27), (3, "cis", 17), (4, "bet", 35), (4, "cis", 21)])

    def test_what_is_not_paid_in_full_lets_nothing_be_given_back(self):
        # 50 by 35 and 21 of 56: 31 and 18, of which 14 and 42 are left.
        self.reckon(LONG, 5, (self.WEEK, (("bet", 31), ("cis", 19)), ()),
                    [(3, "bet", 27), (3, "cis", 17), (4, "bet", 35), (4, "cis", 21), (5, "bet", 4), (5, "cis", 2)])

    def test_given_back_the_oldest_week_first(self):
        # 110 pence: 56 of this week, 44 of week 3, and of week 4 ten: 6 and 3, 14 and 42 left.
        back = ((3, "bet", 27), (3, "cis", 17), (4, "bet", 6), (4, "cis", 4))
        self.reckon(LONG, 6, (self.WEEK, self.WEEK, back),
                    [(4, "bet", 29), (4, "cis", 17), (5, "bet", 4), (5, "cis", 2)])
        # Behind it nothing more comes in: the oldest one is none that waits longer for having been paid in part.
        self.reckon(LONG, 7, (self.WEEK, (("bet", 0), ("cis", 0)), ()),
                    [(4, "bet", 29), (4, "cis", 17), (5, "bet", 4), (5, "cis", 2), (7, "bet", 35), (7, "cis", 21)])

    def test_given_back_to_all(self):
        text = LONG + "; 49 0 rent 108"
        back = ((4, "bet", 29), (4, "cis", 17), (5, "bet", 4), (5, "cis", 2))
        self.reckon(text, 7, (self.WEEK, self.WEEK, back))
        self.reckon(text + "; 49 5 rent 7", 7, (self.WEEK, self.WEEK, back), (), 7)

    def test_one_penny_given_back(self):
        # It goes to the greater one of the oldest week; pence from 1 on are told.
        text = LONG + "; 49 0 rent 57"
        self.reckon(text, 7, (self.WEEK, self.WEEK, ((4, "bet", 1),)),
                    [(4, "bet", 28), (4, "cis", 17), (5, "bet", 4), (5, "cis", 2)])

    def test_one_who_came_later_has_nothing_of_older_weeks(self):
        text = FOLK + "10 1 ask cis; 15 0 ask bet; 22 0 rent 80"
        self.reckon(text, 2, ((("bet", 30), ("cis", 21)), (("bet", 0), ("cis", 0)), ()),
                    [(1, "cis", 12), (2, "bet", 30), (2, "cis", 21)])
        self.reckon(text, 3, (self.WEEK, self.WEEK, ((1, "cis", 12), (2, "bet", 7), (2, "cis", 5))),
                    [(2, "bet", 23), (2, "cis", 16)])


class TestStruck(ReckoningCase):
    def test_one_who_goes_with_something_owed(self):
        text = LONG + "; 50 7 go bet"
        out = [("bet", 4, 29), ("bet", 5, 4)]
        self.reckon(text, 6, week_paper(DEED, book_of(LONG), 6), owed(DEED, book_of(LONG), 6))
        # Of the running week it has nothing owed.
        self.reckon(text, 7, ((("cis", 21),), (("cis", 0),), ()), [(4, "cis", 17), (5, "cis", 2), (7, "cis", 21)], 0, out)
        self.reckon(text, 8, ((("cis", 21),), (("cis", 0),), ()),
                    [(4, "cis", 17), (5, "cis", 2), (7, "cis", 21), (8, "cis", 21)], 0, out)
        # What is struck isn't given back any more.
        self.reckon(text + "; 55 0 rent 999", 7, ((("cis", 21),), (("cis", 21),), ((4, "cis", 17), (5, "cis", 2))), (),
                    959, out)

    def test_by_the_going_as_pages_stand(self):
        text = LONG + "; 49 0 go cis; 49 0 go dot; 60 1 go bet; 60 2 go bet"
        out = [("cis", 4, 17), ("cis", 5, 2), ("bet", 4, 29), ("bet", 5, 4), ("bet", 7, 35)]
        self.reckon(text, 8, ((), (), ()), (), 0, out)
        self.reckon(text, 7, ((("bet", 35),), (("bet", 0),), ()), [(4, "bet", 29), (5, "bet", 4), (7, "bet", 35)], 0,
                    out[:2])
        # In one moment as Python sorts.
        text = LONG + "; 49 0 go bet; 49 0 go cis"
        self.reckon(text, 7, ((), (), ()), (), 0, out[2:4] + out[:2])

    def test_one_who_goes_when_it_is_housed(self):
        # All was paid: nothing is struck, and nothing due of the running week.
        text = BOTH + "10 3 rent 900; 19 0 go cis"
        self.reckon(text, 2, ((("bet", 35),), (("bet", 35),), ()), (), 833)
        text = BOTH + "12 0 go cis"
        self.reckon(text, 1, ((("bet", 20),), (("bet", 0),), ()), [(1, "bet", 20)])

    def test_one_that_is_gone_earlier(self):
        # It has gone ahead of any reckoning, or out of the row, or goes twice.
        text = BOTH + "11 0 ask dot; 12 0 go cis; 13 0 go cis; 30 0 go cis"
        self.reckon(text, 4, ((("bet", 35), ("dot", 21)), (("bet", 0), ("dot", 0)), ()),
                    [(1, "bet", 20), (1, "dot", 6)] + [(week, name, pence) for week in (2, 3, 4)
                                                       for name, pence in (("bet", 35), ("dot", 21))])
        self.reckon(FOLK + "11 0 go cis; 12 0 rent 5", 1, ((), (), ()), (), 5)

    def test_on_the_reckonings_own_day(self):
        # The page is ahead of the evening.
        self.reckon(BOTH + "20 999 go cis", 2, ((("bet", 35),), (("bet", 0),), ()), [(1, "bet", 20), (2, "bet", 35)], 0,
                    [("cis", 1, 12)])
        self.reckon(BOTH + "21 0 go cis", 2, (TestOwed.WEEK, (("bet", 0), ("cis", 0)), ()),
                    [(1, "bet", 20), (1, "cis", 12), (2, "bet", 35), (2, "cis", 21)])


class TestRefused(unittest.TestCase):
    def test_weeks_that_are_not_reckoned(self):
        for call in CALLS:
            for book, weeks in ((book_of(LONG), (0, -1, -10 ** 59)), ((), (0, 1, 14284, -1)),
                                (book_of("14 0 rent 5"), (1, 0, -1))):
                for week in weeks:
                    with self.assertRaises(NoWeek) as caught:
                        call(DEED, book, week)
                    self.assertEqual(caught.exception.week, week)
            call(DEED, book_of("20 999 rent 5"), 2)


class TestAsTold(unittest.TestCase):
    def test_of_books_made_by_a_seed(self):
        seen = {"all": 0, "part": 0, "none": 0, "back": 0, "weeks": 0, "struck": 0, "left": 0}
        for deed, book, week, facts in walked_weeks():
            for some in (book, up_to(book, (7 * week + 6, 1000))):
                told = [call(deed, some, week) for call in CALLS]
                self.assertEqual(told, [facts["papers"][week], facts["owed"], facts["chest"], facts["struck"]])
            due, paid, back = facts["papers"][week]
            lacks = sum(row[1] for row in due) - sum(row[1] for row in paid)
            if due:
                seen["all" if not lacks else "part" if sum(row[1] for row in paid) else "none"] += 1
            seen["back"] += bool(back)
            seen["weeks"] += len({row[0] for row in back}) > 1
            seen["struck"] += bool(facts["struck"])
            seen["left"] += bool({row[:2] for row in back} & {row[:2] for row in facts["owed"]})
        # The books would show it if a part of this went wrong.
        self.assertGreater(min(seen.values()), 2, seen)

    def test_what_comes_of_it(self):
        before = {}
        for deed, book, week, _ in walked_weeks():
            due, paid, back = week_paper(deed, book, week)
            left = chest(deed, book, week)
            had = left + sum(row[1] for row in paid) + sum(row[2] for row in back)
            rents = sum(page[3] for page in book if page[2] == "rent" and page[0] // 7 == week)
            self.assertEqual(had, before.get((deed, book), 0) + rents)
            before[deed, book] = left
            # All dues were paid, or all that the chest had then; nothing was given back where something lacks.
            self.assertEqual(sum(row[1] for row in paid), min(had, sum(row[1] for row in due)))
            if due != paid:
                self.assertEqual((back, left), ((), 0))
            still = owed(deed, book, week)
            self.assertEqual(still, sorted(still))
            if still and back:
                self.assertLessEqual(back[-1][0], still[0][0])
            self.assertTrue(left == 0 or not still)
            self.assertEqual([row for row in list(back) + still if row[2] < 1], [])

    def test_nothing_is_changed_nor_remembered(self):
        rows = [row[:3] for row in walked_weeks()[:60]]
        before = copy.deepcopy(rows)
        first = [[call(*row) for call in CALLS] for row in rows]
        for row in rows:
            owed(*row).append((0, "bet", 7))
            struck(*row).clear()
        self.assertEqual([[call(*row) for call in CALLS] for row in rows[::-1]], first[::-1])
        self.assertEqual(rows, before)
