import copy
import itertools
import unittest
from functools import lru_cache

from almsrow.books import is_book, up_to
from almsrow.cases import is_case, longest
from almsrow.errors import NoName, NoPaper
from almsrow.house import placed, row
from almsrow.waitchecker import lets_wait
from almsrow.waiting import followed, story_pages, wait_case
from tests.common import maker
from tests.slow import book_of, slow_behind, walked_books
from tests.test_house import FOLK_IN, OLD, deed_of

# fay is in place 0, gil in 1, hob in 2 by a turn; nobody is fit for place 3; ivo is in place 4.
DEED = deed_of(("row", OLD), ("row", ()), ("turn", ()), ("row", ((("kin", 0),),)), ("row", ()))
BOOK = book_of(FOLK_IN + "5 0 folk fay ely -30000 -; 5 0 folk gil ely 0 -; 5 0 folk hob ely 0 -; 5 0 folk ivo ely 0 -;"
               "5 1 ask fay; 5 2 ask gil; 5 3 ask ivo; 6 0 name sir 2 hob; 7 1 ask dot; 7 2 ask cis; 7 3 ask bet")
UNTILS = (20, 30, 40, 50, 60)


def fit_on(slow, place, name, day):
    return slow.why_not(place, name, day) is None


def slow_case(deed, book, day, name, untils):
    slow = slow_behind(deed, book, (day, 1000))
    ahead = slow.row()[:slow.row().index(name)]
    places = [place for place, (sort, _, _) in enumerate(deed[1])
              if sort == "row" and untils[place] and not slow.empty(place) and fit_on(slow, place, name, day + 1)]
    return (tuple(places), tuple((untils[place], tuple(other for other in ahead if fit_on(slow, place, other, day + 1)))
                                 for place in places))


@lru_cache(maxsize=None)
def waiters():
    """Rows (deed, book, day, name, untils), the name one in the row behind the day's evening."""
    rng, rows = maker(74), []
    for deed, book, (day, _), _ in walked_books():
        if rng.random() < 0.5:
            # Who waits where all is of sort "row", so that there are places to wait for.
            deed = (deed[0], tuple(("row",) + place[1:] for place in deed[1])) + deed[2:]
        day = min(day, 99990)
        waiting = slow_behind(deed, book, (day, 1000)).row()
        if waiting and len(rows) < 250:
            untils = tuple(rng.choice((None, day + 1, day + 2, day + 9)) for _ in deed[1])
            rows.append((deed, book, day, rng.choice((waiting[0], waiting[-1])), untils))
    return tuple(rows)


class TestWaitCase(unittest.TestCase):
    def tell(self, day, name, places, *case, untils=UNTILS, book=BOOK, deed=DEED):
        told = wait_case(deed, book, day, name, untils)
        self.assertEqual(told, (places, case), (day, name))
        self.assertEqual([type(part) for part in told + (told,)], [tuple] * 3)
        self.assertTrue(is_case(told[1]))

    def test_the_book(self):
        self.assertEqual(placed(DEED, BOOK, (8, 1000)),
                         (("fay", 5, 1), ("gil", 5, 2), ("hob", 6, 0), None, ("ivo", 5, 3)))
        self.assertEqual(row(DEED, BOOK, (8, 1000)), ("dot", "cis", "bet"))

    def test_places_of_sort_row_that_are_housed_in(self):
        self.tell(8, "dot", (1, 4), (30, ()), (60, ()))
        self.tell(8, "cis", (1, 4), (30, ("dot",)), (60, ("dot",)))
        self.tell(8, "bet", (1, 4), (30, ("dot", "cis")), (60, ("dot", "cis")))
        self.tell(7, "bet", (1, 4), (30, ("dot", "cis")), (60, ("dot", "cis")))
        # Nobody is in place 0 any more: bet waits no longer for it than until she is fit.
        self.tell(8, "bet", (1, 4), (30, ("dot", "cis")), (60, ("dot", "cis")),
                  book=BOOK + ((8, 0, "go", "fay"),))
        # An empty place isn't told either, for which she is fit on the next day.
        self.tell(9, "bet", (1, 4), (30, ("dot", "cis")), (60, ("dot", "cis")), book=BOOK + ((8, 0, "go", "fay"),))
        # One of sort "turn" isn't told, though it fell and went by the row.
        deed, book = DEED[:3] + ((1, 1, 0, 1),), BOOK + book_of("8 0 go hob")
        self.assertEqual(placed(deed, book, (9, 1000))[2], ("dot", 9, 1000))
        self.tell(9, "bet", (0, 1, 4), (20, ()), (30, ("cis",)), (60, ("cis",)), book=book, deed=deed)

    def test_one_who_comes_to_an_age_on_the_next_day(self):
        # bet on 10, cis on 13.
        self.tell(9, "bet", (0, 1, 4), (20, ()), (30, ("dot", "cis")), (60, ("dot", "cis")))
        self.tell(11, "bet", (0, 1, 4), (20, ()), (30, ("dot", "cis")), (60, ("dot", "cis")))
        self.tell(11, "cis", (1, 4), (30, ("dot",)), (60, ("dot",)))
        self.tell(12, "bet", (0, 1, 4), (20, ("cis",)), (30, ("dot", "cis")), (60, ("dot", "cis")))
        self.tell(12, "cis", (0, 1, 4), (20, ()), (30, ("dot",)), (60, ("dot",)))

    def test_untils(self):
        for untils, places in (((None,) * 5, ()), ((13, None, None, None, None), (0,)), ((None, 13, 13, 13, None), (1,)),
                               ((99999, None, None, None, 99999), (0, 4))):
            self.assertEqual(wait_case(DEED, BOOK, 12, "bet", untils)[0], places)
        # In the order of the places, whatever the untils.
        self.tell(12, "cis", (0, 1, 4), (60, ()), (50, ("dot",)), (13, ("dot",)), untils=(60, 50, 40, 30, 13))

    def test_what_comes_behind_the_evening_is_not_looked_at(self):
        late = BOOK + book_of("13 0 go dot; 13 1 go cis; 13 2 go gil")
        self.tell(12, "bet", (0, 1, 4), (20, ("cis",)), (30, ("dot", "cis")), (60, ("dot", "cis")), book=late)
        # Behind its own one bet has gil's place.
        with self.assertRaises(NoName):
            wait_case(DEED, late, 13, "bet", UNTILS)

    def test_refused(self):
        book = BOOK + book_of("9 0 go dot; 10 0 folk jem ely 0 -; 10 1 ask jem")
        for day, names in ((4, ("bet", "")), (6, ("bet", "dot")), (8, ("fay", "gil", "hob", "jem", "sir", "kim", "")),
                           (9, ("dot", "jem")), (10, ("dot", "eve"))):
            for name in names:
                with self.assertRaises(NoName) as caught:
                    wait_case(DEED, book, day, name, UNTILS)
                self.assertEqual(caught.exception.name, name)
        self.assertEqual(wait_case(DEED, book, 10, "jem", (None,) * 5), ((), ()))
        with self.assertRaises(NoName):
            wait_case(DEED, (), 10, "bet", UNTILS)


class TestPagesOfStories(unittest.TestCase):
    def test_pages_told(self):
        for story, due in (((), ()), (((1, "dot"),), "13 0 go gil"), (((2, "dot"), (0, "cis")), "13 0 go ivo; 13 1 go fay"),
                           (((0, "cis"), (1, "dot"), (2, None)), "13 0 go fay; 13 1 go gil; 13 2 go ivo")):
            told = story_pages(DEED, BOOK, 12, (0, 1, 4), story)
            self.assertEqual(told, book_of(due) if due else ())
            self.assertIs(type(told), tuple)
        # Rows are those of the case, which has no place 0 here.
        self.assertEqual(story_pages(DEED, BOOK, 8, (1, 4), ((1, "dot"), (0, None))), book_of("9 0 go ivo; 9 1 go gil"))

    def test_followed(self):
        pages = book_of("13 0 go fay; 13 1 go gil")
        self.assertEqual(followed(BOOK, 12, pages), BOOK + pages)
        self.assertEqual(followed(BOOK, 12, pages[::-1]), BOOK + pages)
        self.assertEqual(followed(BOOK, 6, pages), up_to(BOOK, (6, 1000)) + pages)
        self.assertEqual(followed(BOOK, 4, pages), pages)
        self.assertEqual(followed(BOOK, 12, ()), BOOK)
        self.assertEqual(followed((), 12, pages), pages)
        # Pages of the day itself stay, later ones go.
        self.assertEqual(followed(BOOK, 7, ()), BOOK)
        self.assertEqual(followed(BOOK + pages, 12, book_of("14 0 rent 5")), BOOK + book_of("14 0 rent 5"))


class TestWhatComesOfIt(unittest.TestCase):
    def follow(self, deed, book, day, name, places, story):
        """Point 76: each place of the story has who it tells."""
        more = followed(book, day, story_pages(deed, book, day, places, story))
        self.assertTrue(is_book(more))
        told = placed(deed, more, (day + 1, 999))
        for k, (r, who) in enumerate(story):
            self.assertEqual(told[places[r]], (who or name, day + 1, k))
        waits = name in row(deed, more, (day + 1, 999))
        self.assertEqual(waits, None not in [who for _, who in story])

    def test_by_hand(self):
        places, case = wait_case(DEED, BOOK, 12, "bet", UNTILS)
        self.assertEqual(longest(case)[0], 60)
        self.follow(DEED, BOOK, 12, "bet", places, longest(case)[1])
        # With no until for place 4 there is one each for the others.
        places, case = wait_case(DEED, BOOK, 12, "bet", (20, 30, 40, 50, None))
        self.assertEqual(longest(case), (None, ((0, "cis"), (1, "dot")), None))
        self.follow(DEED, BOOK, 12, "bet", places, longest(case)[1])
        self.follow(DEED, BOOK, 12, "bet", places, ((1, "dot"), (0, "cis")))
        places, case = wait_case(DEED, BOOK, 8, "bet", UNTILS)
        self.assertEqual(longest(case)[0], None)
        self.follow(DEED, BOOK, 8, "bet", places, longest(case)[1])

    def test_of_books_made_by_a_seed(self):
        days, many = [], 0
        for deed, book, day, name, untils in waiters():
            told = wait_case(deed, book, day, name, untils)
            self.assertEqual(told, slow_case(deed, book, day, name, untils))
            self.assertEqual(told, wait_case(deed, up_to(book, (day, 1000)), day, name, untils))
            places, case = told
            paper = longest(case)
            self.follow(deed, book, day, name, places, paper[1])
            # All orders of the places that are let by, too.
            for order in itertools.permutations(paper[1]) if len(case) > 1 else ():
                try:
                    lets_wait(case, (paper[0], order, paper[2]))
                    self.follow(deed, book, day, name, places, order)
                    many += 1
                except NoPaper:
                    pass
            days.append((len(case), paper[0] is None))
        self.assertGreater(many, 10)
        for size in (1, 2):
            for never in (True, False):
                self.assertIn((size, never), days)

    def test_nothing_is_changed_nor_remembered(self):
        rows = waiters()[:30]
        before = copy.deepcopy(rows)
        first = [wait_case(*some) for some in rows]
        self.assertEqual([wait_case(*some) for some in rows[::-1]], first[::-1])
        self.assertEqual(rows, before)
