import copy
import unittest

from almsrow.books import is_book, joined
from almsrow.errors import NoBack, NoPage
from almsrow.pages import is_page
from almsrow.register import Register
from tests.common import ODD, deep, maker
from tests.slow import stands
from tests.test_counting import DEED
from tests.test_texts import PAGES

PAGE, OTHER, THIRD = (5, 0, "rent", 5), (4, 9, "go", "ann"), (5, 0, "ask", "bet")


def rents(many, start=0):
    return [(start + k, 0, "rent", 5) for k in range(many)]


def filled(pages):
    held = Register(DEED)
    for page in pages:
        held.tell(page)
    return held


class RegisterCase(unittest.TestCase):
    def refuse(self, word, call, *things):
        with self.assertRaises(NoPage) as caught:
            call(*things)
        self.assertEqual(caught.exception.word, word)

    def no_back(self, call, *things):
        with self.assertRaises(NoBack):
            call(*things)

    def stand(self, held, deeds, *pages):
        self.assertEqual((held.deeds(), held.book()), (deeds, pages))
        self.assertTrue(is_book(held.book()))
        self.assertEqual(held.elder(deeds), pages)
        self.no_back(held.elder, deeds + 1)


class TestTell(RegisterCase):
    def test_at_first(self):
        held = Register(DEED)
        self.assertEqual(held.deed(), DEED)
        self.stand(held, 0)
        self.no_back(held.back)

    def test_new_and_there(self):
        held = Register(DEED)
        self.assertIs(held.tell(PAGE), True)
        self.stand(held, 1, PAGE)
        for _ in range(3):
            self.assertIs(held.tell(PAGE), False)
        self.stand(held, 1, PAGE)
        self.assertIs(held.tell(OTHER), True)
        self.assertIs(held.tell(THIRD), True)
        self.stand(held, 3, OTHER, PAGE, THIRD)
        self.assertEqual(held.deed(), DEED)

    def test_no_page(self):
        held = filled([PAGE, (1, 1, "rent", 1)])
        for thing in ODD + (deep(30), list(PAGE), PAGE[:3], PAGE + (0,), (5, 1000, "rent", 5), (5, 0, "folk", "a", "b", 6, ""),
                            (True, True, "rent", True), (1, True, "rent", 1), [PAGE], (PAGE,), "5 0 rent 5"):
            self.assertFalse(is_page(thing))
            self.refuse("kind", held.tell, thing)
            self.refuse("none", held.strike, thing)
        self.stand(held, 2, (1, 1, "rent", 1), PAGE)

    def test_sixty_pages_and_one_more(self):
        held = filled(rents(59))
        self.assertIs(held.tell((0, 5, "rent", 5)), True)
        self.assertEqual(len(held.book()), 60)
        self.refuse("many", held.tell, (0, 6, "rent", 5))
        # One that is there is told still, and what is no page goes ahead.
        self.assertIs(held.tell((0, 5, "rent", 5)), False)
        self.refuse("kind", held.tell, (0, 6, "rent", -5))
        self.assertEqual(held.deeds(), 60)
        held.strike((7, 0, "rent", 5))
        self.assertIs(held.tell((0, 6, "rent", 5)), True)
        self.refuse("many", held.tell, (7, 0, "rent", 5))
        self.assertEqual(held.deeds(), 62)


class TestStrike(RegisterCase):
    def test_struck_out(self):
        held = filled([PAGE, OTHER])
        self.assertIsNone(held.strike(PAGE))
        self.stand(held, 3, OTHER)
        self.refuse("none", held.strike, PAGE)
        self.refuse("none", held.strike, THIRD)
        self.assertIs(held.tell(PAGE), True)
        self.stand(held, 4, OTHER, PAGE)
        self.refuse("none", Register(DEED).strike, PAGE)

    def test_a_truth_is_no_number(self):
        held = filled([(1, 0, "rent", 1)])
        for thing in ((True, 0, "rent", 1), (1, False, "rent", 1), (1, 0, "rent", True)):
            self.refuse("none", held.strike, thing)
            self.refuse("kind", held.tell, thing)
        self.stand(held, 1, (1, 0, "rent", 1))


class TestTakeIn(RegisterCase):
    def test_another_one(self):
        held, other = filled([PAGE]), filled([OTHER, PAGE, THIRD])
        self.assertEqual(held.take_in(other), 2)
        self.stand(held, 2, OTHER, PAGE, THIRD)
        self.stand(other, 3, OTHER, PAGE, THIRD)
        # Nothing new is no deed.
        self.assertEqual(held.take_in(other), 0)
        self.assertEqual(held.take_in(Register(DEED)), 0)
        self.stand(held, 2, OTHER, PAGE, THIRD)
        self.assertIs(type(held.take_in(other)), int)

    def test_itself(self):
        for pages in ([], [PAGE, OTHER], rents(60)):
            held = filled(pages)
            self.assertEqual(held.take_in(held), 0)
            self.stand(held, len(pages), *sorted(pages, key=stands))

    def test_beyond_sixty(self):
        held, other = filled(rents(50)), filled(rents(20, 40))
        self.assertEqual(held.take_in(other), 10)
        self.assertEqual(len(held.book()), 60)
        held, other = filled(rents(50)), filled(rents(21, 40))
        self.refuse("many", held.take_in, other)
        self.assertEqual((held.deeds(), held.book()), (50, tuple(rents(50))))
        self.assertEqual((other.deeds(), other.book()), (21, tuple(rents(21, 40))))
        self.assertEqual(filled(rents(60)).take_in(filled(rents(60))), 0)
        self.assertEqual(Register(DEED).take_in(filled(rents(60))), 60)
        self.refuse("many", filled(rents(60)).take_in, filled([PAGE, OTHER]))

    def test_what_one_took_in_is_its_own(self):
        held, other = filled([PAGE]), filled([OTHER])
        held.take_in(other)
        other.strike(OTHER)
        other.tell(THIRD)
        self.stand(held, 2, OTHER, PAGE)
        held.strike(OTHER)
        self.stand(other, 3, THIRD)
        self.assertEqual(held.back(), ("strike", OTHER))
        self.assertEqual(held.back(), ("take", (OTHER,)))
        self.stand(held, 1, PAGE)

    def test_of_other_deeds(self):
        held, other = Register(DEED), Register(DEED[:3] + ((1, 1, 0, 1),))
        other.tell(PAGE)
        self.assertEqual(held.take_in(other), 1)
        self.assertEqual((held.deed(), other.deed()), (DEED, DEED[:3] + ((1, 1, 0, 1),)))


class TestBack(RegisterCase):
    def test_each_deed(self):
        held = filled([PAGE])
        held.tell(OTHER)
        held.strike(PAGE)
        held.take_in(filled([THIRD, PAGE]))
        self.stand(held, 4, OTHER, PAGE, THIRD)
        # The new ones as a book.
        self.assertTrue(stands(PAGE) < stands(THIRD))
        self.assertEqual(held.back(), ("take", (PAGE, THIRD)))
        self.stand(held, 3, OTHER)
        self.assertEqual(held.back(), ("strike", PAGE))
        self.stand(held, 2, OTHER, PAGE)
        self.assertEqual(held.back(), ("tell", OTHER))
        self.stand(held, 1, PAGE)
        self.assertEqual(held.back(), ("tell", PAGE))
        self.stand(held, 0)
        self.no_back(held.back)
        self.stand(held, 0)

    def test_as_if_it_had_never_been(self):
        held = filled([PAGE])
        held.tell(OTHER)
        held.back()
        self.no_back(held.elder, 2)
        self.assertIs(held.tell(OTHER), True)
        self.stand(held, 2, OTHER, PAGE)
        # What was no deed is none to take back.
        held.tell(OTHER)
        held.take_in(held)
        self.assertEqual(held.back(), ("tell", OTHER))

    def test_elder_books(self):
        held = filled([PAGE, OTHER])
        held.strike(PAGE)
        held.take_in(filled([THIRD]))
        books = ((), (PAGE,), (OTHER, PAGE), (OTHER,), (OTHER, THIRD))
        self.assertEqual(tuple(held.elder(k) for k in range(5)), books)
        for k in (-1, -5, -10 ** 59, 5, 6, 10 ** 59):
            self.no_back(held.elder, k)
        self.assertEqual(Register(DEED).elder(0), ())
        self.no_back(Register(DEED).elder, 1)
        self.no_back(Register(DEED).elder, -1)


class TestWhole(RegisterCase):
    def test_two_that_took_in_one_another(self):
        rng = maker(80)
        for _ in range(60):
            one, other = Register(DEED), Register(DEED)
            pages = [page for page, _ in PAGES]
            for _ in range(30):
                held, page = rng.choice((one, other)), rng.choice(pages)
                deed = rng.choice(("tell", "tell", "strike", "back", "take"))
                if deed == "tell":
                    new = page not in held.book()
                    self.assertIs(held.tell(page), new)
                elif deed == "strike" and page in held.book():
                    held.strike(page)
                elif deed == "back" and held.deeds():
                    held.back()
                elif deed == "take":
                    one.take_in(other)
            due = joined(one.book(), other.book())
            one.take_in(other)
            other.take_in(one)
            self.assertEqual((one.book(), other.book()), (due, due))

    def test_against_a_list_of_deeds(self):
        """Each elder book is what its deeds come to, done once more from the first one on."""
        rng = maker(801)
        for _ in range(40):
            held, done = Register(DEED), []
            for _ in range(40):
                page = rng.choice(PAGES)[0]
                word = rng.choice(("tell", "tell", "tell", "strike", "take", "back"))
                if word == "tell" and held.tell(page):
                    done.append(("tell", page))
                if word == "strike" and page in held.book():
                    held.strike(page)
                    done.append(("strike", page))
                if word == "take":
                    other = filled(rng.sample([page for page, _ in PAGES], 2))
                    new = tuple(page for page in other.book() if page not in held.book())
                    self.assertEqual(held.take_in(other), len(new))
                    done += [("take", new)] if new else []
                if word == "back" and done:
                    self.assertEqual(held.back(), done.pop())
            books = [set()]
            for word, thing in done:
                books.append(books[-1] - {thing} if word == "strike" else books[-1] | set(thing if word == "take" else [thing]))
            self.assertEqual([held.elder(k) for k in range(held.deeds() + 1)],
                             [tuple(sorted(book, key=stands)) for book in books])

    def test_nothing_that_is_handed_in_is_changed(self):
        things = [list(PAGE), (5, 0, ["rent"], 5), DEED]
        before = copy.deepcopy(things)
        held = Register(things[2])
        for thing in things[:2]:
            self.refuse("kind", held.tell, thing)
            self.refuse("none", held.strike, thing)
        self.assertEqual(things, before)
