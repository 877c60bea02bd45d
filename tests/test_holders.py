import unittest

from almsrow.books import up_to
from almsrow.holders import heirs, holders
from tests.slow import book_of, walked_books
from tests.test_house import END, FOLK, deed_of

# sir has seats 0 and 2, dame 1, bet, who comes, 3.
DEED = deed_of(("turn", ()), seats=(("sir", 1), ("dame", 2), ("sir", 3), ("bet", 1)))


class TestHolders(unittest.TestCase):
    def tell(self, text, seats, deed=DEED):
        book = book_of(FOLK + text)
        self.assertEqual(holders(deed, book, END), seats, text)
        self.assertEqual(holders(deed, book, book[-1][:2]), seats, text)

    def test_the_deeds_at_first(self):
        for book, moment in (((), END), (book_of(FOLK), (0, 0)), (book_of(FOLK), (9, 1000)), (book_of(FOLK), END)):
            self.assertEqual(holders(DEED, book, moment), ("sir", "dame", "sir", "bet"))
            self.assertIs(type(holders(DEED, book, moment)), tuple)

    def test_sales(self):
        self.tell("11 0 sell sir cis", ("cis", "dame", "cis", "bet"))
        self.tell("11 0 sell dame bet", ("sir", "bet", "sir", "bet"))
        self.tell("11 0 sell dame bet; 11 1 sell bet dot", ("sir", "dot", "sir", "dot"))
        self.tell("11 0 sell cis bet", ("sir", "dame", "sir", "bet"))
        self.tell("11 0 sell sir dame", ("sir", "dame", "sir", "bet"))
        self.tell("11 0 go cis; 11 1 sell sir cis", ("sir", "dame", "sir", "bet"))
        # Sold on the same moment as they stand: bet to cis, then cis to dot.
        self.tell("11 0 sell bet cis; 11 0 sell cis dot", ("sir", "dame", "sir", "dot"))

    def test_a_go_without_an_heir(self):
        self.tell("11 0 go bet", ("sir", "dame", "sir", None))
        self.tell("11 0 sell sir bet; 11 1 go bet", (None, "dame", None, None))
        self.tell("11 0 go cis", ("sir", "dame", "sir", "bet"))

    def test_a_go_with_an_heir(self):
        self.tell("11 0 heir bet cis", ("sir", "dame", "sir", "bet"))
        self.tell("11 0 heir bet cis; 11 1 go bet", ("sir", "dame", "sir", "cis"))
        self.tell("11 0 heir bet cis; 11 1 sell sir bet; 12 0 go bet", ("cis", "dame", "cis", "cis"))
        # The last heir that was done, not the first one.
        self.tell("11 0 heir bet cis; 11 1 heir bet dot; 12 0 go bet", ("sir", "dame", "sir", "dot"))
        self.tell("11 0 heir bet cis; 11 1 heir bet eve; 12 0 go bet", ("sir", "dame", "sir", "cis"))
        # Sold ahead of the going, there is nothing to go to the heir.
        self.tell("11 0 heir bet cis; 11 1 sell bet dot; 12 0 go bet", ("sir", "dame", "sir", "dot"))
        # An heir told for another holder has nothing of bet's.
        self.tell("11 0 heir sir cis; 12 0 go bet", ("sir", "dame", "sir", None))

    def test_heirs_that_are_gone(self):
        self.tell("11 0 heir bet cis; 11 1 go cis; 12 0 go bet", ("sir", "dame", "sir", None))
        # No elder heir comes in for one that is GONE.
        self.tell("11 0 heir bet dot; 11 1 heir bet cis; 11 2 go cis; 12 0 go bet", ("sir", "dame", "sir", None))
        self.tell("11 0 heir bet cis; 11 1 go cis; 11 2 heir bet dot; 12 0 go bet", ("sir", "dame", "sir", "dot"))
        # From heir to heir.
        self.tell("11 0 heir bet cis; 11 0 heir cis dot; 11 1 go bet; 11 2 go cis", ("sir", "dame", "sir", "dot"))
        self.tell("11 0 heir bet cis; 11 0 heir cis dot; 11 1 go cis; 11 2 go bet", ("sir", "dame", "sir", None))

    def test_a_seat_that_is_left_stays_left(self):
        self.tell("11 0 go bet; 11 1 sell bet cis; 11 2 heir bet cis; 11 3 sell sir dot", ("dot", "dame", "dot", None))

    def test_of_books_made_by_a_seed(self):
        for deed, book, moment, facts in walked_books():
            self.assertEqual(holders(deed, book, moment), facts["holders"])
            self.assertEqual(holders(deed, up_to(book, moment), moment), facts["holders"])


class TestHeirs(unittest.TestCase):
    def tell(self, text, pairs):
        book = book_of(FOLK + text)
        self.assertEqual(heirs(book, END), pairs, text)
        self.assertEqual(heirs(book, book[-1][:2]), pairs, text)
        self.assertIs(type(heirs(book, END)), list)

    def test_by_hand(self):
        self.assertEqual(heirs((), END), [])
        self.tell("11 0 sell sir bet", [])
        self.tell("11 0 heir sir bet", [("sir", "bet")])
        self.tell("11 0 heir sir bet; 11 1 heir bet cis; 12 0 heir abe dot",
                  [("abe", "dot"), ("bet", "cis"), ("sir", "bet")])
        self.tell("11 0 heir sir bet; 11 1 heir sir cis", [("sir", "cis")])
        self.tell("11 0 heir sir eve; 11 1 heir sir dame", [])

    def test_goings(self):
        # An heir that is GONE is told, a holder that is GONE isn't.
        self.tell("11 0 heir sir bet; 11 1 go bet", [("sir", "bet")])
        self.tell("11 0 heir sir bet; 11 1 heir bet cis; 11 2 go bet", [("sir", "bet")])
        self.tell("11 0 go bet; 11 1 heir sir bet; 11 2 heir bet cis", [])
        self.tell("11 0 heir sir cis; 11 1 go bet; 11 2 heir sir bet", [("sir", "cis")])

    def test_up_to_the_moment(self):
        book = book_of(FOLK + "11 5 heir sir bet; 12 0 heir sir cis")
        for moment, pairs in (((11, 4), []), ((11, 5), [("sir", "bet")]), ((11, 1000), [("sir", "bet")]),
                              ((12, 0), [("sir", "cis")])):
            self.assertEqual(heirs(book, moment), pairs)

    def test_of_books_made_by_a_seed(self):
        for _, book, moment, facts in walked_books():
            told = heirs(book, moment)
            self.assertEqual(told, facts["heirs"])
            told.append(None)
            self.assertEqual(heirs(up_to(book, moment), moment), facts["heirs"])
