import unittest

from almsrow.books import up_to
from almsrow.idle import idle
from tests.slow import book_of, page_of, walked_books
from tests.test_house import END, FOLK, OLD, deed_of

DEED = deed_of(("turn", OLD), ("row", ()), ("turn", ()), terms=(9, 3, 0, 1))


class TestIdle(unittest.TestCase):
    def last(self, text, word, deed=DEED):
        """The last page of the text is idle by the word, or by none where it is None."""
        book = book_of(FOLK + text)
        told = dict(idle(deed, book, END))
        self.assertEqual(told.pop(book[-1], None), word, text)
        self.assertEqual(idle(deed, book, book[-1][:2])[-1:], [(book[-1], word)] if word else [])
        self.assertEqual(told, {}, text)

    def test_folk(self):
        self.last("11 0 folk bet bath 5 -", "twice")
        self.last("11 0 folk bet bath 5 eve", "twice")
        self.last("11 0 go bet; 11 1 folk bet bath 5 -", "twice")
        self.last("11 0 folk eve bath 5 fay", "parent")
        self.last("11 0 folk eve bath 5 sir", "parent")
        self.last("11 0 folk eve bath 5 bet", None)
        self.last("11 0 go bet; 11 1 folk eve bath 5 bet", None)
        self.last("11 0 folk eve bath 5 -", None)

    def test_asks(self):
        self.last("11 0 ask eve", "folk")
        self.last("11 0 go bet; 11 1 ask bet", "gone")
        self.last("11 0 ask bet; 11 1 go bet; 11 2 ask bet", "gone")
        self.last("11 0 ask bet; 11 1 ask bet", "housed")
        self.last("11 0 ask bet; 11 1 ask cis; 11 2 ask cis", "waits")
        self.last("11 0 ask bet; 11 1 ask cis; 11 2 go bet; 11 3 ask cis", "housed")
        self.last("11 0 ask bet; 11 1 ask cis", None)

    def test_goes_and_days_away(self):
        for page in ("go {}", "away {} 3"):
            self.last("11 1 " + page.format("eve"), "folk")
            self.last("11 0 go bet; 11 1 " + page.format("bet"), "gone")
            self.last("11 0 ask bet; 11 1 " + page.format("bet"), None)
            self.last("11 1 " + page.format("bet"), None)
        self.last("11 0 away bet 3; 12 1 away bet 5", None)

    def test_heirs_and_sales(self):
        for kind in ("heir", "sell"):
            # That the holder is GONE goes ahead of all of the other one.
            self.last(f"11 0 go bet; 11 1 {kind} bet cis", "holder")
            self.last(f"11 0 go bet; 11 1 {kind} bet eve", "holder")
            self.last(f"11 0 go bet; 11 0 go cis; 11 1 {kind} bet cis", "holder")
            self.last(f"11 1 {kind} sir eve", "folk")
            self.last(f"11 1 {kind} bet dame", "folk")
            self.last(f"11 0 go bet; 11 1 {kind} sir bet", "gone")
            self.last(f"11 0 go bet; 11 1 {kind} cis bet", "gone")
            # A holder needn't have come, nor have a seat.
            self.last(f"11 1 {kind} sir bet", None)
            self.last(f"11 1 {kind} nobody bet", None)
            self.last(f"11 1 {kind} bet cis", None)

    def test_rents(self):
        self.last("11 0 rent 0", None)

    def test_namings(self):
        # Turns 0 of sir for place 0 and 1 of dame for place 2, from the evening of 10 on.
        self.last("11 0 name sir 3 bet", "place")
        self.last("11 0 name sir 99 nobody", "place")
        self.last("11 0 ask bet; 11 1 name sir 1 cis", "full")
        self.last("11 0 name dame 2 cis; 11 1 name dame 2 dot", "full")
        self.last("11 0 name dame 2 cis; 11 1 name nobody 2 nobody", "full")
        self.last("11 0 name sir 1 bet", "turn")
        self.last("11 0 name nobody 1 nobody", "turn")
        self.last("10 9 name sir 0 bet", "turn")
        self.last("11 0 name dame 0 bet", "holder")
        self.last("11 0 name sir 2 bet", "holder")
        self.last("11 0 name nobody 0 nobody", "holder")
        self.last("11 0 name sir 0 eve", "folk")
        self.last("11 0 name sir 0 sir", "folk")
        self.last("11 0 go bet; 11 1 name sir 0 bet", "gone")
        self.last("11 0 ask bet; 11 1 go bet; 11 2 name sir 0 bet", "gone")
        self.last("11 0 ask bet; 11 1 name sir 0 bet", "housed")
        self.last("11 0 ask dot; 11 1 name sir 0 dot", "housed")
        self.last("11 0 name dame 2 bet; 11 1 name sir 0 bet", "housed")
        self.last("11 0 name sir 0 dot", "rules")
        self.last("12 0 name sir 0 cis", "rules")
        self.last("13 0 name sir 0 cis", None)
        self.last("11 0 name sir 0 bet", None)
        self.last("11 0 name dame 2 dot", None)

    def test_namings_of_the_second_clause(self):
        deed = deed_of(("turn", ((("out", ("bath",)),), (("town", ("york",)),))), terms=(9, 3, 0, 1))
        self.last("11 0 name sir 0 bet", "rules", deed)
        self.last("11 0 name sir 0 cis", None, deed)

    def test_namings_by_who_has_the_seat_now(self):
        self.last("11 0 sell sir cis; 11 1 name sir 0 bet", "holder")
        self.last("11 0 sell sir cis; 11 1 name cis 0 bet", None)
        self.last("11 0 sell sir cis; 11 1 heir cis dot; 11 2 go cis; 11 3 name cis 0 bet", "holder")
        self.last("11 0 sell sir cis; 11 1 heir cis dot; 11 2 go cis; 11 3 name dot 0 bet", None)
        # Nobody can name by a seat that is left.
        for holder in ("sir", "cis", "dame"):
            self.last(f"11 0 sell sir cis; 11 2 go cis; 11 3 name {holder} 0 bet", "holder")
        # Who names may be named.
        self.last("11 0 sell sir bet; 11 1 name bet 0 bet", None)

    def test_a_place_that_has_fallen_has_no_turn(self):
        deed = deed_of(("turn", OLD), terms=(1, 1, 0, 1))
        self.last("11 999 name sir 0 bet", None, deed)
        self.last("12 0 name sir 0 bet", "turn", deed)

    def test_as_they_stand_up_to_the_moment(self):
        book = book_of(FOLK + "11 0 heir sir eve; 11 0 ask eve; 11 0 go eve; 11 1 go eve; 12 0 ask eve; 12 0 go bet; "
                              "12 1 ask bet")
        told = [(page_of(line), "folk") for line in ("11 0 heir sir eve", "11 0 ask eve", "11 0 go eve", "11 1 go eve",
                                                     "12 0 ask eve")]
        told.append((page_of("12 1 ask bet"), "gone"))
        for moment, many in (((9, 1000), 0), ((10, 1000), 0), ((11, 0), 3), ((11, 1), 4), ((11, 1000), 4), ((12, 0), 5),
                             (END, 6)):
            self.assertEqual(idle(DEED, book, moment), told[:many])
            self.assertIs(type(idle(DEED, book, moment)), list)
        self.assertEqual([type(pair) for pair in idle(DEED, book, END)], [tuple] * 6)
        self.assertEqual(idle(DEED, (), END), [])


class TestAsTold(unittest.TestCase):
    def test_of_books_made_by_a_seed(self):
        for deed, book, moment, facts in walked_books():
            told = idle(deed, book, moment)
            self.assertEqual(told, facts["idle"])
            self.assertEqual(idle(deed, up_to(book, moment), moment), told)
            # The beginning of what is told later.
            self.assertEqual(idle(deed, book, (99999, 1000) if moment[0] > 9999 else (moment[0] + 30, 7))[:len(told)],
                             told)

    def test_what_is_told_is_the_askers_own(self):
        book = book_of(FOLK + "11 0 ask eve; 11 1 go eve")
        told = idle(DEED, book, END)
        told.append(None)
        told[0] = None
        self.assertEqual([word for _, word in idle(DEED, book, END)], ["folk", "folk"])
