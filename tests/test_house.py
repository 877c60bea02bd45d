import copy
import unittest

from almsrow.books import up_to
from almsrow.errors import NoPlace
from almsrow.house import fallen, placed, row, why_not
from tests.slow import book_of, walked_books

OLD = ((("age", 60, None),),)
SEATS = (("sir", 1), ("dame", 1))
END = (400, 1000)


def deed_of(*places, terms=(2, 2, 0, 1), seats=SEATS, founder="fnd"):
    return (founder, tuple((sort, 1, rules) for sort, rules in places), seats, terms)


# Born on -21830 one is 60 from day 10 on; on -21827 from day 13 on.
ROWED = deed_of(("row", OLD), ("row", ()))
TURNED = deed_of(("turn", ()))
FOLK = "10 0 folk bet ely -21830 -; 10 0 folk cis york -21827 -; 10 0 folk dot ely 0 -;"
FOLK_IN = "5 0 folk bet ely -21830 -; 5 0 folk cis york -21827 -; 5 0 folk dot ely 0 -;"


def moment_of(words):
    return tuple(int(word) for word in words.split())


class HouseCase(unittest.TestCase):
    def stand(self, deed, book, moment, who, waiting=(), down=()):
        """All that point 44 tells, in one."""
        told = (placed(deed, book, moment), row(deed, book, moment), fallen(deed, book, moment))
        self.assertEqual(told, (who, waiting, down), moment)
        self.assertEqual([type(part) for part in told], [tuple] * 3)


class TestNothingWalked(HouseCase):
    def test_of_no_pages_and_ahead_of_the_first(self):
        book = book_of(FOLK + "10 1 ask bet")
        for moment in ((0, 0), (9, 1000), (10, 0)):
            self.stand(ROWED, book, moment, (None, None))
        for moment in ((0, 0), END, (99999, 1000)):
            self.stand(TURNED, (), moment, (None,))
        late = book_of("10 500 rent 1")
        self.stand(deed_of(("turn", ()), terms=(1, 1, 0, 1)), late, (10, 499), (None,))


class TestRow(HouseCase):
    def test_an_ask_is_answered_at_its_moment_by_places(self):
        book = book_of(FOLK + "10 1 ask dot; 10 2 ask cis; 10 3 ask bet")
        self.stand(ROWED, book, (10, 0), (None, None))
        # dot is too young for place 0; cis comes to be 60 on 13 only; bet is.
        self.stand(ROWED, book, (10, 1), (None, ("dot", 10, 1)))
        self.stand(ROWED, book, (10, 2), (None, ("dot", 10, 1)), ("cis",))
        self.stand(ROWED, book, (10, 3), (("bet", 10, 3), ("dot", 10, 1)), ("cis",))
        self.stand(ROWED, book, END, (("bet", 10, 3), ("dot", 10, 1)), ("cis",))

    def test_one_ask_may_let_the_first_place_have_its_asker(self):
        book = book_of(FOLK + "10 1 ask bet")
        self.stand(ROWED, book, (10, 1), (("bet", 10, 1), None))

    def test_an_evening_on_which_one_comes_to_an_age(self):
        book = book_of(FOLK + "10 1 ask dot; 10 2 ask cis; 10 3 rent 5; 11 0 folk eve ely 0 -; 11 1 ask eve")
        for moment in ((11, 1), (12, 1000), (13, 0), (13, 999)):
            self.stand(ROWED, book, moment, (None, ("dot", 10, 1)), ("cis", "eve"))
        for moment in ((13, 1000), (14, 0), END):
            self.stand(ROWED, book, moment, (("cis", 13, 1000), ("dot", 10, 1)), ("eve",))

    def test_an_ask_on_the_day_of_the_age_is_ahead_of_its_evening(self):
        book = book_of(FOLK + "10 1 ask dot; 10 2 ask cis; 11 0 folk eve ely 0 -; 11 1 ask eve; "
                              "13 4 folk fay ely -21830 -; 13 5 ask fay")
        # All who wait are asked, not fay alone: cis stands ahead of her.
        self.stand(ROWED, book, (13, 4), (None, ("dot", 10, 1)), ("cis", "eve"))
        self.stand(ROWED, book, (13, 5), (("cis", 13, 5), ("dot", 10, 1)), ("eve", "fay"))

    def test_an_ask_behind_which_two_places_go(self):
        # fnd comes, and dot is its child: fit for place 1 by the next ask, which houses its asker, too.
        deed = deed_of(("row", OLD), ("row", ((("kin", 1),),)))
        book = book_of(FOLK_IN + "5 1 ask cis; 6 0 folk eve ely 0 cis; 6 1 ask eve; 13 1 folk fnd ely 0 cis; "
                                 "13 2 folk fay ely -21840 -; 13 3 ask fay")
        self.stand(deed, book, (13, 2), (None, None), ("cis", "eve"))
        self.stand(deed, book, (13, 3), (("cis", 13, 3), None), ("eve", "fay"))
        book = book_of(FOLK_IN + "5 1 ask cis; 6 1 ask dot; 13 1 folk fnd ely 0 dot; 13 2 folk fay ely -21840 -; "
                                 "13 3 ask fay")
        self.stand(deed, book, (13, 2), (None, None), ("cis", "dot"))
        self.stand(deed, book, (13, 3), (("cis", 13, 3), ("dot", 13, 3)), ("fay",))

    def test_a_go_behind_which_the_place_goes_at_once(self):
        book = book_of(FOLK + "10 1 ask bet; 10 2 ask cis; 10 3 ask dot; 11 7 go cis; 12 8 go bet")
        self.stand(ROWED, book, (10, 3), (("bet", 10, 1), ("cis", 10, 2)), ("dot",))
        self.stand(ROWED, book, (11, 7), (("bet", 10, 1), ("dot", 11, 7)))
        # Nobody waits for place 0, and dot stays in place 1.
        for moment in ((12, 8), (12, 1000), END):
            self.stand(ROWED, book, moment, (None, ("dot", 11, 7)))

    def test_a_go_asks_for_the_place_that_it_emptied_alone(self):
        # On 13 cis is 60, fit for place 0, but a go out of place 1 asks for place 1 alone.
        deed = deed_of(("row", OLD), ("row", ((("out", ("york",)),),)))
        book = book_of(FOLK_IN + "5 1 ask dot; 5 2 ask cis; 13 5 go dot")
        self.stand(deed, book, (13, 5), (None, None), ("cis",))
        self.stand(deed, book, (13, 1000), (("cis", 13, 1000), None))

    def test_a_go_out_of_the_row(self):
        book = book_of(FOLK + "10 1 ask dot; 10 2 ask cis; 11 0 folk eve ely 0 -; 11 1 ask eve; 12 0 go cis; "
                              "12 1 go eve")
        self.stand(ROWED, book, (11, 1), (None, ("dot", 10, 1)), ("cis", "eve"))
        self.stand(ROWED, book, (12, 0), (None, ("dot", 10, 1)), ("eve",))
        self.stand(ROWED, book, END, (None, ("dot", 10, 1)))

    def test_a_go_of_one_who_neither_waits_nor_is_housed(self):
        book = book_of(FOLK + "10 1 ask dot; 10 2 ask cis; 11 0 go bet")
        self.stand(ROWED, book, (11, 0), (None, ("dot", 10, 1)), ("cis",))

    def test_idle_asks_turn_nothing(self):
        book = book_of(FOLK + "10 1 ask cis; 10 2 ask dot; 10 3 ask cis; 11 0 go dot; 11 1 ask dot; 11 2 ask cis; "
                              "11 3 ask eve")
        self.stand(deed_of(("row", OLD)), book, (11, 3), (None,), ("cis",))
        # An ask that is idle asks for no place: cis waits for the evening.
        book = book_of(FOLK + "10 1 ask cis; 13 3 ask cis; 13 4 ask eve")
        self.stand(deed_of(("row", OLD)), book, (13, 4), (None,), ("cis",))
        self.stand(deed_of(("row", OLD)), book, (13, 1000), (("cis", 13, 1000),))


class TestTurns(HouseCase):
    def test_named_in_time(self):
        # Turn 0 is given out in the evening of 10, to the 12th.
        for day, number in ((11, 0), (12, 0), (12, 999)):
            book = book_of(FOLK + f"{day} {number} name sir 0 dot")
            self.stand(TURNED, book, (day, number), (("dot", day, number),))
            self.stand(TURNED, book, END, (("dot", day, number),))
        for moment in ("10 999", "13 0", "15 0"):
            book = book_of(FOLK + moment + " name sir 0 dot")
            self.stand(TURNED, book, moment_of(moment), (None,), (), (0,) if moment == "15 0" else ())

    def test_nobody_is_asked_ahead_of_a_fall(self):
        book = book_of(FOLK + "10 1 ask dot; 12 0 ask bet")
        self.stand(TURNED, book, (10, 1), (None,), ("dot",))
        # Spent in the evenings of 12 and 14: two tries, it has fallen, and goes by the row in that one.
        self.stand(TURNED, book, (14, 999), (None,), ("dot", "bet"))
        self.stand(TURNED, book, (14, 1000), (("dot", 14, 1000),), ("bet",))

    def test_fallen_with_nobody_there(self):
        book = book_of(FOLK + "20 3 ask bet; 22 0 go bet")
        self.stand(TURNED, book, (14, 999), (None,))
        for moment in ((14, 1000), (15, 0), (20, 2)):
            self.stand(TURNED, book, moment, (None,), (), (0,))
        # An ask is answered as of a place of sort "row"; then it hasn't fallen any more.
        self.stand(TURNED, book, (20, 3), (("bet", 20, 3),))
        self.stand(TURNED, book, (21, 1000), (("bet", 20, 3),))

    def test_emptied_again_it_goes_by_turns_anew(self):
        book = book_of(FOLK + "20 3 ask bet; 20 4 ask dot; 22 0 go bet")
        # No go asks the row for it, nor the evenings to come, until so many tries again.
        self.stand(TURNED, book, (20, 4), (("bet", 20, 3),), ("dot",))
        for moment in ((22, 0), (22, 1000), (24, 1000), (26, 999)):
            self.stand(TURNED, book, moment, (None,), ("dot",))
        self.stand(TURNED, book, (26, 1000), (("dot", 26, 1000),))

    def test_one_named_is_out_of_the_row(self):
        book = book_of(FOLK + "10 1 ask dot; 10 2 ask bet; 10 3 ask cis; 11 0 name sir 0 bet")
        self.stand(TURNED, book, (11, 0), (("bet", 11, 0),), ("dot", "cis"))

    def test_places_by_number_in_one_evening(self):
        # Fallen just now, place 0 goes ahead of place 1, which has fallen in the same evening.
        deed = deed_of(("turn", ()), ("turn", OLD), ("row", OLD), terms=(1, 1, 0, 1))
        book = book_of("10 0 folk bet ely -21829 -; 10 0 folk cis ely -21829 -; 10 0 folk dot ely 0 -;"
                       "10 1 ask cis; 10 1 ask dot; 10 2 ask bet")
        self.stand(deed, book, (11, 999), (None, None, None), ("cis", "dot", "bet"))
        self.stand(deed, book, (11, 1000), (("cis", 11, 1000), ("bet", 11, 1000), None), ("dot",))

    def test_fallen_places_rise(self):
        deed = deed_of(("turn", OLD), ("row", ()), ("turn", OLD), ("turn", ()), terms=(1, 1, 0, 1))
        book = book_of(FOLK + "11 0 name dame 2 bet")
        self.stand(deed, book, (11, 1000), (None, None, ("bet", 11, 0), None), (), (0, 3))


class TestWhyNot(unittest.TestCase):
    RULES = ((("town", ("ely", "york")),), (("age", 60, None), ("kin", 1)), (("out", ("york",)), ("far", 0)))
    DEED = deed_of(("row", OLD), ("turn", RULES), ("row", ()))
    BOOK = book_of(FOLK + "10 0 folk fnd ely 5 -; 10 1 folk eve york 10 fnd; 10 2 folk fay bath 0 -; 11 0 ask bet; "
                          "11 1 ask dot; 12 0 go bet")

    def tell(self, moment, place, **told):
        self.assertEqual({name: why_not(self.DEED, self.BOOK, moment, place, name) for name in told}, told)

    def test_by_hand(self):
        self.tell((10, 2), 0, bet=None, cis=0, dot=0, eve=0, fay=0, fnd=0, hob="folk", sir="folk")
        self.tell((10, 2), 1, bet=None, cis=1, dot=1, eve=None, fay=0, fnd=None)
        self.tell((10, 2), 2, bet=None, cis=None, dot=None, eve=None, fay=None, fnd=None, hob="folk")
        self.assertEqual(why_not(self.DEED, self.BOOK, (10, 2), 2, ""), "folk")

    def test_on_the_day_of_the_moment(self):
        self.tell((12, 1000), 0, cis=0)
        self.tell((13, 0), 0, cis=None)
        self.tell((13, 0), 1, cis=None, dot="housed")

    def test_housed_and_gone(self):
        for place in (0, 1, 2):
            self.tell((11, 0), place, bet="housed")
            self.tell((11, 999), place, bet="housed", dot="housed")
            self.tell((12, 0), place, bet="gone", dot="housed")
            self.tell(END, place, bet="gone", dot="housed", hob="folk")

    def test_a_place_that_is_full_is_looked_at_likewise(self):
        self.tell((11, 1), 0, eve=0, cis=0, dot="housed")
        self.tell((13, 0), 2, eve=None, cis=None)

    def test_behind_folk_that_comes_later(self):
        # By point 6 ties are None where the founder didn't come.
        deed = deed_of(("row", ((("kin", 1),),)))
        book = book_of("1 0 folk eve ely 0 -; 2 0 folk fnd ely 0 eve")
        self.assertEqual([why_not(deed, book, (day, 0), 0, "eve") for day in (0, 1, 2)], ["folk", 0, None])

    def test_refused(self):
        for place in (-1, -3, 3, 4, 10 ** 59, -10 ** 59):
            for moment in ((0, 0), (11, 0), END):
                for name in ("bet", "hob", ""):
                    with self.assertRaises(NoPlace) as caught:
                        why_not(self.DEED, self.BOOK, moment, place, name)
                    self.assertEqual(caught.exception.place, place)
        with self.assertRaises(NoPlace):
            why_not(self.DEED, (), END, 3, "bet")


class TestAsTold(HouseCase):
    def test_of_books_made_by_a_seed(self):
        for deed, book, moment, facts in walked_books():
            for some in (book, up_to(book, moment)):
                self.stand(deed, some, moment, facts["placed"], facts["row"], facts["fallen"])
            for (place, name), why in facts["why"].items():
                self.assertEqual(why_not(deed, book, moment, place, name), why)

    def test_what_comes_of_it(self):
        homes = {}
        for deed, book, moment, _ in walked_books():
            told, waiting, down = placed(deed, book, moment), row(deed, book, moment), fallen(deed, book, moment)
            names = [who[0] for who in told if who] + list(waiting)
            self.assertEqual(len(names), len(set(names)))
            if moment[1] == 1000:
                for place, (sort, _, _) in enumerate(deed[1]):
                    if told[place] is None and (sort == "row" or place in down):
                        for name in waiting:
                            self.assertIsNot(why_not(deed, book, moment, place, name), None)
            for place, who in enumerate(told):
                if who:
                    self.assertEqual(homes.setdefault((deed, book, who[0]), (place,) + who), (place,) + who)

    def test_nothing_is_changed_nor_remembered(self):
        rows = [some[:3] for some in walked_books()[:60]]
        before = copy.deepcopy(rows)
        first = [placed(*some) for some in rows]
        self.assertEqual([placed(*some) for some in rows[::-1]], first[::-1])
        self.assertEqual(rows, before)
