import copy
import unittest

from almsrow.books import up_to
from almsrow.errors import NoPaper, NoWeek
from almsrow.reckoning import week_paper
from almsrow.weekchecker import lets_week
from tests.common import ODD, deep, maker, refusal, spoilt
from tests.slow import book_of, walked_weeks
from tests.test_counting import BOTH, DEED, pence_deed
from tests.test_reckoning import LONG

BOOK = book_of(LONG)
DUES = (("bet", 35), ("cis", 21))
BACK = ((3, "bet", 27), (3, "cis", 17), (4, "bet", 6), (4, "cis", 4))

# Each with a 1 or a 0 where a truth could stand.
PENNY_DEED = pence_deed(1, 1, away=0)
PENNY_BOOK = book_of(BOTH + "10 3 rent 3; 10 4 away cis 4; 11 0 away bet 3")
PENNY = ((("bet", 1), ("cis", 0)), (("bet", 1), ("cis", 0)), ())


def same(thing, due):
    return type(thing) is type(due) and (thing == due if type(due) is not tuple else
                                         len(thing) == len(due) and all(map(same, thing, due)))


def week_fault(paper, thing):
    """The word and the place by which a thing is not the paper, or None."""
    if type(thing) is not tuple or [type(part) for part in thing] != [tuple] * 3:
        return ("shape", -1)
    for word, told, due in zip(("dues", "paid", "back"), thing, paper):
        for k in range(max(len(told), len(due))):
            if k == len(told) or k == len(due) or not same(told[k], due[k]):
                return (word, k)
    return None


class TestLetsWeek(unittest.TestCase):
    def refuse(self, thing, word, at, week=6, deed=DEED, book=BOOK):
        self.assertEqual(refusal(lets_week, deed, book, week, thing), (word, at), thing)

    def test_the_paper_told(self):
        self.assertEqual(week_paper(DEED, BOOK, 6), (DUES, DUES, BACK))
        for book in (BOOK, up_to(BOOK, (48, 1000))):
            self.assertIs(lets_week(DEED, book, 6, (DUES, DUES, BACK)), True)
        self.assertIs(lets_week(DEED, book_of("10 0 rent 5"), 1, ((), (), ())), True)

    def test_shape(self):
        for thing in ODD + (deep(30), [DUES, DUES, BACK], (DUES, DUES), (DUES, DUES, BACK, ()), ((DUES, DUES, BACK),)):
            self.refuse(thing, "shape", -1)
        for part in (None, True, 0, "", [], list(DUES), "bet"):
            for k in range(3):
                # It goes ahead of all other words.
                thing = [(), (("nobody", 1),), ()]
                thing[k] = part
                self.refuse(tuple(thing), "shape", -1)

    def test_another_thing(self):
        for k, (name, pence) in enumerate(DUES):
            for bad in ((name, pence + 1), (name, pence - 1), ("dot", pence), (name,), (name, pence, 0), [name, pence],
                        (pence, name), None, True, name, pence, (), ((name, pence),), DUES[1 - k]):
                rows = DUES[:k] + (bad,) + DUES[k + 1:]
                self.refuse((rows, DUES, BACK), "dues", k)
                self.refuse((DUES, rows, BACK), "paid", k)
        for k, (week, name, pence) in enumerate(BACK):
            for bad in ((week, name, pence + 1), (week + 1, name, pence), (week, "dot", pence), (week, name), None,
                        (week, name, pence, 0), [week, name, pence], (name, week, pence), (name, pence), "", 0):
                self.refuse((DUES, DUES, BACK[:k] + (bad,) + BACK[k + 1:]), "back", k)

    def test_one_too_many_and_one_lacking(self):
        for k in range(2):
            self.refuse((DUES[:k], DUES, BACK), "dues", k)
            self.refuse((DUES, DUES[:k], BACK), "paid", k)
        self.refuse((DUES + (("dot", 0),), DUES, BACK), "dues", 2)
        self.refuse((DUES, DUES + (None,), BACK), "paid", 2)
        self.refuse((DUES + DUES, DUES, BACK), "dues", 2)
        for k in range(4):
            self.refuse((DUES, DUES, BACK[:k]), "back", k)
        self.refuse((DUES, DUES, BACK + ((5, "bet", 0),)), "back", 4)
        self.refuse((DUES[1:], DUES, BACK), "dues", 0)
        self.refuse((DUES, DUES, BACK[1:]), "back", 0)
        for thing, word in ((((0,), (), ()), "dues"), (((), (0,), ()), "paid"), (((), (), (0,)), "back")):
            self.refuse(thing, word, 0, 1, DEED, book_of("10 0 rent 5"))

    def test_in_the_order_told(self):
        self.refuse((DUES[:1], (), ()), "dues", 1)
        self.refuse((DUES, (), ()), "paid", 0)
        self.refuse((DUES, DUES[:1] + (None,), (None,)), "paid", 1)
        # The least place, whatever comes behind.
        self.refuse((DUES, DUES, (BACK[0], None, None, None, None)), "back", 1)

    def test_a_truth_is_no_number(self):
        due = week_paper(PENNY_DEED, PENNY_BOOK, 1)
        self.assertEqual(due, PENNY)
        self.assertIs(lets_week(PENNY_DEED, PENNY_BOOK, 1, due), True)
        for k, bad in ((0, ("bet", True)), (1, ("cis", False))):
            for i, word in ((0, "dues"), (1, "paid")):
                thing = list(due)
                thing[i] = due[i][:k] + (bad,) + due[i][k + 1:]
                self.refuse(tuple(thing), word, k, 1, PENNY_DEED, PENNY_BOOK)
        # One penny given back, of week 1.
        book = book_of(BOTH + "10 4 rent 7; 20 4 rent 15")
        deed = pence_deed(1, 1)
        back = week_paper(deed, book, 2)[2]
        self.assertEqual(back, ((1, "cis", 1),))
        for bad in ((1, "cis", True), (True, "cis", 1), (True, "cis", True)):
            self.refuse(week_paper(deed, book, 2)[:2] + ((bad,),), "back", 0, 2, deed, book)

    def test_ahead_of_all_no_week(self):
        for thing in ODD + ((DUES, DUES, BACK), ((), (), ())):
            for book, week in ((BOOK, 0), (BOOK, -1), ((), 6)):
                with self.assertRaises(NoWeek) as caught:
                    lets_week(DEED, book, week, thing)
                self.assertEqual(caught.exception.week, week)

    def test_nothing_is_changed(self):
        thing = ([["bet", 35]], [[]], [])
        before = copy.deepcopy(thing)
        with self.assertRaises(NoPaper):
            lets_week(DEED, BOOK, 6, thing)
        self.assertEqual(thing, before)


class TestAsTold(unittest.TestCase):
    def test_papers_told_and_papers_spoilt(self):
        rng, words = maker(61), set()
        for deed, book, week, facts in walked_weeks():
            paper = facts["papers"][week]
            self.assertIs(lets_week(deed, book, week, paper), True)
            for _ in range(6):
                bad = spoilt(rng, paper)
                fault = week_fault(paper, bad)
                if fault is None:
                    self.assertIs(lets_week(deed, book, week, bad), True)
                else:
                    self.assertEqual(refusal(lets_week, deed, book, week, bad), fault)
                    words.add(fault[0])
        self.assertEqual(words, {"shape", "dues", "paid", "back"})
