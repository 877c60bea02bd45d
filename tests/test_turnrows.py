import unittest

from almsrow.books import up_to
from almsrow.errors import NoPlace
from almsrow.house import fallen, placed
from almsrow.turnrows import next_of_house, open_turn, turn_rows
from almsrow.turns import seat_of
from tests.slow import book_of, walked_books
from tests.test_house import END, FOLK, OLD, deed_of

# sir has the turns 0, 2, 4 .., dame 1, 3, 5 ..; a window of two days, two tries.
ONE = deed_of(("turn", ()))
LONG = deed_of(("turn", ()), ("row", OLD), ("turn", ()), terms=(9, 3, 0, 1))


class TurnCase(unittest.TestCase):
    def tell(self, deed, text, moment, rows):
        book = book_of(FOLK + text)
        self.assertEqual(turn_rows(deed, book, moment), rows, (text, moment))
        self.assertEqual(next_of_house(deed, book, moment), len(rows))

    def now(self, deed, text, moment, *turns):
        book = book_of(FOLK + text)
        self.assertEqual(tuple(open_turn(deed, book, moment, place) for place in range(len(deed[1]))), turns,
                         (text, moment))


class TestTurnRows(TurnCase):
    def test_nothing_walked(self):
        for moment in ((0, 0), (9, 1000), (10, 0), (10, 999)):
            self.tell(ONE, "", moment, [])
        self.assertEqual((turn_rows(ONE, (), END), next_of_house(ONE, (), END)), ([], 0))

    def test_opened_in_an_evening_and_spent_on_the_last_day(self):
        for moment in ((10, 1000), (11, 0), (12, 999)):
            self.tell(ONE, "", moment, [(0, 0, 10, ("open", 12))])
        for moment in ((12, 1000), (14, 999)):
            self.tell(ONE, "", moment, [(0, 0, 10, ("spent", 12)), (1, 0, 12, ("open", 14))])
        # So many as tries: it has fallen, and none is opened any more.
        for moment in ((14, 1000), (15, 1000), END):
            self.tell(ONE, "", moment, [(0, 0, 10, ("spent", 12)), (1, 0, 12, ("spent", 14))])

    def test_the_first_evening_is_that_of_the_first_page(self):
        self.assertEqual(turn_rows(ONE, book_of("20 999 rent 1"), (20, 1000)), [(0, 0, 20, ("open", 22))])
        self.assertEqual(turn_rows(ONE, book_of("20 999 rent 1; 23 0 rent 1"), (21, 1000)), [(0, 0, 20, ("open", 22))])

    def test_named(self):
        self.tell(ONE, "12 999 name sir 0 bet", (12, 999), [(0, 0, 10, ("named", "bet"))])
        self.tell(ONE, "12 999 name sir 0 bet", END, [(0, 0, 10, ("named", "bet"))])
        self.tell(ONE, "13 0 name dame 0 bet", END, [(0, 0, 10, ("spent", 12)), (1, 0, 12, ("named", "bet"))])
        # A naming that is idle leaves the turn open.
        self.tell(ONE, "12 999 name dame 0 bet", (12, 999), [(0, 0, 10, ("open", 12))])

    def test_places_by_number_and_none_of_sort_row(self):
        self.tell(LONG, "", (10, 1000), [(0, 0, 10, ("open", 19)), (1, 2, 10, ("open", 19))])
        self.tell(LONG, "11 0 name sir 0 bet; 12 0 go bet", (11, 1000),
                  [(0, 0, 10, ("named", "bet")), (1, 2, 10, ("open", 19))])
        # Emptied again it is given the next one of the house, in the evening.
        rows = [(0, 0, 10, ("named", "bet")), (1, 2, 10, ("open", 19))]
        self.tell(LONG, "11 0 name sir 0 bet; 12 0 go bet", (12, 999), rows)
        self.tell(LONG, "11 0 name sir 0 bet; 12 0 go bet", (12, 1000), rows + [(2, 0, 12, ("open", 21))])

    def test_housed_and_gone_on_one_day(self):
        self.tell(ONE, "11 0 name sir 0 bet; 11 1 go bet", (11, 1000), [(0, 0, 10, ("named", "bet")),
                                                                        (1, 0, 11, ("open", 13))])

    def test_a_seat_that_is_left_spends_its_turns_at_once(self):
        deed = deed_of(("turn", ()), seats=(("sir", 1), ("bet", 1)), terms=(2, 3, 0, 1))
        rows = [(0, 0, 10, ("spent", 12)), (1, 0, 12, ("left",)), (2, 0, 12, ("open", 14))]
        self.tell(deed, "11 0 go bet", (12, 1000), rows)
        self.tell(deed, "11 0 go bet", END, rows[:2] + [(2, 0, 12, ("spent", 14))])
        # The third of three tries was spent at once: it has fallen in that evening.
        self.tell(deed_of(("turn", ()), seats=(("sir", 1), ("bet", 1))), "11 0 go bet", END, rows[:2])

    def test_all_seats_left(self):
        deed = deed_of(("turn", ()), ("turn", ()), seats=(("bet", 2),), terms=(2, 3, 0, 1))
        rows = [(t, t // 3, 10, ("left",)) for t in range(6)]
        self.tell(deed, "10 1 go bet", (10, 1000), rows)
        self.tell(deed, "10 1 go bet", END, rows)
        self.assertEqual(fallen(deed, book_of(FOLK + "10 1 go bet"), (10, 1000)), (0, 1))

    def test_a_seat_left_while_its_turn_is_open(self):
        deed = deed_of(("turn", ()), seats=(("bet", 1), ("dame", 1)))
        self.tell(deed, "11 0 go bet", (12, 999), [(0, 0, 10, ("open", 12))])
        self.tell(deed, "11 0 go bet", (12, 1000), [(0, 0, 10, ("spent", 12)), (1, 0, 12, ("open", 14))])

    def test_tries_are_counted_anew_when_it_is_emptied_again(self):
        text = "13 0 name dame 0 bet; 20 0 go bet"
        rows = [(0, 0, 10, ("spent", 12)), (1, 0, 12, ("named", "bet"))]
        self.tell(ONE, text, (20, 999), rows)
        self.tell(ONE, text, END, rows + [(2, 0, 20, ("spent", 22)), (3, 0, 22, ("spent", 24))])

    def test_fallen_then_housed_then_emptied_again(self):
        text = "20 0 ask bet; 25 0 go bet"
        rows = [(0, 0, 10, ("spent", 12)), (1, 0, 12, ("spent", 14))]
        self.tell(ONE, text, (25, 999), rows)
        self.tell(ONE, text, (25, 1000), rows + [(2, 0, 25, ("open", 27))])
        self.tell(ONE, text, END, rows + [(2, 0, 25, ("spent", 27)), (3, 0, 27, ("spent", 29))])

    def test_of_other_weights(self):
        # Of weights 3 and 1 the seat 1 has each fourth turn, it is left.
        deed = deed_of(("turn", ()), seats=(("sir", 3), ("bet", 1)), terms=(1, 9, 0, 1))
        ends = [("left",) if seat_of((3, 1), t) == 1 else ("spent",) for t in range(9)]
        self.assertEqual(ends.count(("left",)), 2)
        told = turn_rows(deed, book_of(FOLK + "10 1 go bet"), END)
        self.assertEqual([end[:1] for _, _, _, end in told], ends)

    def test_last_days_beyond_the_days(self):
        deed = deed_of(("turn", ()), terms=(30, 2, 0, 1))
        self.assertEqual(turn_rows(deed, book_of("99999 0 rent 0"), (99999, 1000)), [(0, 0, 99999, ("open", 100029))])
        self.assertEqual(open_turn(deed, book_of("99999 0 rent 0"), (99999, 1000), 0), (0, 0, "sir", 100029))


class TestOpenTurn(TurnCase):
    def test_by_hand(self):
        self.now(LONG, "", (10, 999), None, None, None)
        self.now(LONG, "", (10, 1000), (0, 0, "sir", 19), None, (1, 1, "dame", 19))
        self.now(LONG, "11 5 name dame 2 dot", (11, 4), (0, 0, "sir", 19), None, (1, 1, "dame", 19))
        self.now(LONG, "11 5 name dame 2 dot", (11, 5), (0, 0, "sir", 19), None, None)
        self.now(LONG, "", (19, 999), (0, 0, "sir", 19), None, (1, 1, "dame", 19))
        self.now(LONG, "", (19, 1000), (2, 0, "sir", 28), None, (3, 1, "dame", 28))
        self.now(LONG, "", (37, 1000), None, None, None)
        self.assertIs(type(open_turn(LONG, book_of(FOLK), (10, 1000), 0)), tuple)
        self.assertIs(open_turn(LONG, (), END, 0), None)

    def test_sold_inherited_and_left(self):
        self.now(ONE, "11 0 sell sir cis", (11, 0), (0, 0, "cis", 12))
        self.now(ONE, "11 0 sell sir cis; 11 1 heir cis dot; 11 2 go cis", (11, 1), (0, 0, "cis", 12))
        self.now(ONE, "11 0 sell sir cis; 11 1 heir cis dot; 11 2 go cis", (11, 2), (0, 0, "dot", 12))
        self.now(ONE, "11 0 sell sir cis; 11 2 go cis", (11, 2), (0, 0, None, 12))
        self.now(ONE, "11 0 sell sir cis; 11 2 go cis", (12, 999), (0, 0, None, 12))
        self.now(ONE, "11 0 sell sir cis; 11 2 go cis", (12, 1000), (1, 1, "dame", 14))

    def test_refused(self):
        for book in ((), book_of(FOLK)):
            for place in (-1, -3, 3, 10 ** 59, -10 ** 59):
                for moment in ((0, 0), END):
                    with self.assertRaises(NoPlace) as caught:
                        open_turn(LONG, book, moment, place)
                    self.assertEqual(caught.exception.place, place)


class TestAsTold(unittest.TestCase):
    def test_of_books_made_by_a_seed(self):
        for deed, book, moment, facts in walked_books():
            for some in (book, up_to(book, moment)):
                told = turn_rows(deed, some, moment)
                self.assertEqual(told, facts["turns"])
                self.assertEqual(next_of_house(deed, some, moment), len(told))
                self.assertEqual([open_turn(deed, some, moment, place) for place in range(len(deed[1]))], facts["open"])
            self.assertEqual([type(told), *map(type, told)], [list] + [tuple] * len(told))

    def test_what_comes_of_it(self):
        for deed, book, moment, _ in walked_books():
            told, who = turn_rows(deed, book, moment), placed(deed, book, moment)
            self.assertEqual([turn for turn, _, _, _ in told], list(range(len(told))))
            for _, place, _, end in told:
                self.assertEqual(deed[1][place][0], "turn")
                if end[0] == "open":
                    self.assertIs(who[place], None)

    def test_the_beginning_of_what_is_told_later(self):
        for deed, book, moment, _ in walked_books():
            ahead = turn_rows(deed, book, moment)
            later = turn_rows(deed, book, (min(moment[0] + 20, 99999), 1000))[:len(ahead)]
            self.assertEqual([row[:3] for row in later], [row[:3] for row in ahead])
            self.assertEqual([row for row, old in zip(later, ahead) if old[3][0] != "open"],
                             [row for row in ahead if row[3][0] != "open"])

    def test_what_is_told_is_the_askers_own(self):
        book = book_of(FOLK)
        told = turn_rows(ONE, book, END)
        told.append(told.pop(0))
        self.assertEqual([row[0] for row in turn_rows(ONE, book, END)], [0, 1])
