import copy
import itertools
import unittest

from almsrow.books import in_order, is_book, joined, up_to, with_page, without_page
from almsrow.errors import NoPage
from tests.common import ODD, deep, maker
from tests.slow import some_book, some_deed, stands
from tests.test_pages import NO_PAGES, PAGES

# One day and number: the kinds in their order, like kinds as what is left sorts.
STOOD = (
    (3, 0, "go", "zoe"),
    (3, 5, "folk", "ann", "ely", -9, ""), (3, 5, "folk", "ann", "ely", 2, ""), (3, 5, "folk", "ann", "ely", 2, "bet"),
    (3, 5, "folk", "ann", "york", -9, ""), (3, 5, "folk", "bet", "ely", -9, ""),
    (3, 5, "heir", "bet", "ann"), (3, 5, "heir", "bet", "cis"), (3, 5, "sell", "ann", "bet"),
    (3, 5, "away", "ann", 2), (3, 5, "away", "ann", 10), (3, 5, "rent", 9), (3, 5, "rent", 10), (3, 5, "rent", 100),
    (3, 5, "ask", "ann"), (3, 5, "ask", "bet"),
    (3, 5, "name", "bet", 2, "zoe"), (3, 5, "name", "bet", 10, "ann"), (3, 5, "name", "cis", 0, "ann"),
    (3, 5, "go", "ann"),
    (3, 40, "folk", "ann", "ely", -9, ""), (20, 0, "rent", 0), (100, 0, "folk", "dot", "ely", 0, ""),
)


class TestIsBook(unittest.TestCase):
    def tell(self, truth, things):
        for thing in things:
            self.assertIs(is_book(thing), truth, repr(thing)[:300])

    def test_books(self):
        self.tell(True, ((), STOOD, STOOD[4:9], STOOD[::3]))
        self.tell(True, [(page,) for page in PAGES])

    def test_of_however_many_pages_however_far_apart(self):
        self.tell(True, [tuple((day, 0, "rent", 1) for day in range(900)),
                         ((0, 0, "go", "a"), (99999, 999, "go", "a"))])
        self.tell(False, [tuple((day, 0, "rent", 1) for day in range(900)) + ((899, 0, "rent", 1),)])

    def test_things_that_are_none(self):
        self.tell(False, [thing for thing in ODD if thing != ()])
        self.tell(False, (list(STOOD), [], deep(30), deep(29), STOOD[0], (STOOD,), (STOOD[0], None), (STOOD[0], ())))
        self.tell(False, [(page,) for page in NO_PAGES])
        self.tell(False, [STOOD + (page,) for page in NO_PAGES] + [(page,) + STOOD for page in NO_PAGES])
        self.tell(False, [([*STOOD[0]],), (STOOD[0], [*STOOD[1]])])

    def test_any_two_the_other_way_about_and_twice(self):
        for one, other in itertools.combinations(STOOD, 2):
            self.tell(True, ((one, other),))
            self.tell(False, ((other, one), (one, one), (one, other, other), (one, other, one)))

    def test_true_is_no_1(self):
        self.tell(False, (((1, 0, "rent", True),), ((True, 0, "rent", 1),), ((1, 0, "rent", 1), (1, 1, "rent", True))))


class TestInOrder(unittest.TestCase):
    def test_as_they_stand_each_once(self):
        rng = maker(41)
        for _ in range(30):
            some = rng.sample(STOOD, rng.randint(0, len(STOOD)))
            twice = some + [rng.choice(some) for _ in range(9) if some]
            rng.shuffle(twice)
            due = tuple(page for page in STOOD if page in some)
            for pages in (twice, tuple(twice), some, some[::-1]):
                told = in_order(pages)
                self.assertEqual(told, due)
                self.assertIs(type(told), tuple)
                self.assertIs(is_book(told), True)

    def test_of_none_and_of_two_hundred(self):
        self.assertEqual(in_order([]), ())
        self.assertEqual(in_order(()), ())
        many = [(k * 37 % 200, 0, "rent", k) for k in range(200)]
        self.assertEqual(in_order(many), tuple(sorted(many)))
        self.assertEqual(in_order(STOOD[:5] * 40), STOOD[:5])

    def test_lists_stay_as_they_are(self):
        pages = list(STOOD[::-1]) * 2
        before = copy.deepcopy(pages)
        in_order(pages)
        self.assertEqual(pages, before)


class TestBooks(unittest.TestCase):
    def test_with_a_page(self):
        for page in STOOD:
            rest = tuple(other for other in STOOD if other != page)
            self.assertEqual(with_page(rest, page), STOOD)
            self.assertEqual(with_page(STOOD, page), STOOD)
            self.assertEqual(with_page((), page), (page,))

    def test_without_a_page(self):
        for page in STOOD:
            rest = tuple(other for other in STOOD if other != page)
            self.assertEqual(without_page(STOOD, page), rest)
            self.assertEqual(without_page((page,), page), ())
            for book in (rest, ()):
                with self.assertRaises(NoPage) as caught:
                    without_page(book, page)
                self.assertEqual(caught.exception.word, "none")

    def test_joined(self):
        for one, other in ((STOOD[:9], STOOD[5:]), (STOOD[::2], STOOD[1::2]), (STOOD, ()), ((), STOOD), (STOOD, STOOD)):
            self.assertEqual(joined(one, other), STOOD)
            self.assertEqual(joined(other, one), STOOD)
        self.assertEqual(joined((), ()), ())
        self.assertEqual(joined(STOOD[3:5], STOOD[7:9]), STOOD[3:5] + STOOD[7:9])

    def test_up_to(self):
        for moment, many in (((0, 0), 0), ((2, 1000), 0), ((3, 0), 1), ((3, 4), 1), ((3, 5), 20), ((3, 39), 20),
                             ((3, 40), 21),
                             ((3, 1000), 21), ((19, 999), 21), ((20, 0), 22), ((99, 1000), 22), ((100, 0), 23),
                             ((99999, 1000), 23)):
            self.assertEqual(up_to(STOOD, moment), STOOD[:many], moment)
        self.assertEqual(up_to((), (5, 5)), ())

    def test_however_its_pages_came(self):
        rng = maker(42)
        for _ in range(10):
            book = some_book(rng, some_deed(rng), 20)
            self.assertIs(is_book(book), True)
            self.assertEqual(book, tuple(sorted(book, key=stands)))
            pages = list(book)
            rng.shuffle(pages)
            told = ()
            for page in pages:
                told = with_page(told, page)
            self.assertEqual(told, book)
            for page in pages[:7]:
                told = without_page(told, page)
            self.assertEqual(told, tuple(page for page in book if page not in pages[:7]))
            self.assertEqual(joined(told, in_order(pages[:9])), book)
            for told in (in_order(pages), joined(book, told), up_to(book, (99999, 1000)), with_page(book, pages[0])):
                self.assertEqual([type(told)] + [type(page) for page in told], [tuple] * (len(book) + 1))
