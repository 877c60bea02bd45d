import unittest

from almsrow.books import up_to
from almsrow.history import history
from almsrow.house import placed
from almsrow.turnrows import turn_rows
from tests.slow import book_of, walked_books
from tests.test_house import END, FOLK, FOLK_IN, OLD, deed_of

RULES = ((("town", ("ely", "york")),), (("age", 60, None),))


class TestHistory(unittest.TestCase):
    def tell(self, deed, text, *rows):
        book = book_of(text)
        self.assertEqual(history(deed, book, END), list(rows), text)
        for many, row in enumerate(rows):
            self.assertEqual(history(deed, book, row[1:3])[:many + 1], list(rows[:many + 1]))

    def test_of_nothing(self):
        self.assertEqual(history(deed_of(("row", ())), (), END), [])
        for moment in ((9, 1000), (10, 0), END):
            self.assertEqual(history(deed_of(("row", ())), book_of(FOLK), moment), [])

    def test_an_ask(self):
        self.tell(deed_of(("row", ())), FOLK + "10 4 ask bet", (0, 10, 4, "bet", ("row", ())))
        # York has not the first clause, dot not the second one.
        deed = deed_of(("row", ((("town", ("bath", "ely")),), (("age", 60, None),))))
        self.tell(deed, FOLK + "10 1 ask dot; 10 2 ask cis; 10 3 ask bet",
                  (0, 10, 3, "bet", ("row", (("dot", 1), ("cis", 0)))))

    def test_those_who_stood_ahead_as_they_stood(self):
        deed = deed_of(("row", OLD), ("row", RULES))
        text = FOLK_IN + ("5 1 folk eve bath 5 -; 5 2 ask eve; 5 3 ask dot; 5 4 ask cis; 5 5 ask bet;"
                          "6 0 go eve; 10 0 rent 0")
        # On 10 bet is 60: place 0 is hers in the evening; on 13 cis has place 1, dot is ahead, eve is out.
        self.tell(deed, text, (0, 10, 1000, "bet", ("row", (("dot", 0), ("cis", 0)))),
                  (1, 13, 1000, "cis", ("row", (("dot", 1),))))
        # Without the going eve is skipped, too, by the first clause that doesn't hold.
        text = text.replace("6 0 go eve; ", "")
        self.tell(deed, text, (0, 10, 1000, "bet", ("row", (("eve", 0), ("dot", 0), ("cis", 0)))),
                  (1, 13, 1000, "cis", ("row", (("eve", 0), ("dot", 1)))))

    def test_none_of_those_who_stood_behind(self):
        text = FOLK_IN + "5 1 ask cis; 5 2 ask dot; 5 3 ask bet; 13 4 folk eve ely -21840 -; 13 5 ask eve"
        self.tell(deed_of(("row", OLD)), text, (0, 10, 1000, "bet", ("row", (("cis", 0), ("dot", 0)))))
        text = FOLK_IN + "5 1 ask dot; 5 2 ask cis; 5 3 folk eve ely -21827 -; 5 4 ask eve"
        self.tell(deed_of(("row", OLD)), text, (0, 13, 1000, "cis", ("row", (("dot", 0),))))

    def test_a_go(self):
        text = FOLK + "10 1 ask bet; 10 2 ask dot; 10 3 ask cis; 13 7 go bet"
        self.tell(deed_of(("row", OLD)), text, (0, 10, 1, "bet", ("row", ())),
                  (0, 13, 7, "cis", ("row", (("dot", 0),))))

    def test_by_places_behind_one_ask_and_in_one_evening(self):
        deed = deed_of(("row", OLD), ("row", ((("kin", 1),),)))
        text = FOLK_IN + "5 1 ask cis; 6 1 ask dot; 13 1 folk fnd ely 0 dot; 13 2 folk fay ely -21840 -; 13 3 ask fay"
        # dot was let in behind cis, who had left the row by then.
        self.tell(deed, text, (0, 13, 3, "cis", ("row", ())), (1, 13, 3, "dot", ("row", ())))
        self.tell(deed, text.replace("; 13 3 ask fay", ""), (0, 13, 1000, "cis", ("row", ())),
                  (1, 13, 1000, "dot", ("row", ())))
        deed = deed_of(("turn", ()), ("turn", OLD), terms=(1, 1, 0, 1))
        self.tell(deed, FOLK + "10 1 ask dot; 10 2 ask bet", (0, 11, 1000, "dot", ("row", ())),
                  (1, 11, 1000, "bet", ("row", ())))

    def test_named(self):
        deed = deed_of(("turn", ()), ("turn", ()))
        self.tell(deed, FOLK + "11 0 name dame 1 bet; 11 1 name sir 0 cis", (1, 11, 0, "bet", ("named", 1, "dame")),
                  (0, 11, 1, "cis", ("named", 0, "sir")))
        # Of one who waits ahead nothing is told; who named is the holder of that day.
        text = FOLK + ("10 1 ask bet; 10 2 ask cis; 11 0 sell sir dot; 12 9 name dot 0 cis;"
                       "13 0 sell dot bet; 13 1 go bet")
        self.tell(deed_of(("turn", ())), text, (0, 12, 9, "cis", ("named", 0, "dot")))

    def test_fallen_and_emptied_again(self):
        text = FOLK + "10 1 ask dot; 20 0 go dot; 21 0 name sir 0 bet"
        self.tell(deed_of(("turn", ())), text, (0, 14, 1000, "dot", ("row", ())),
                  (0, 21, 0, "bet", ("named", 2, "sir")))

    def test_kinds_of_things(self):
        told = history(deed_of(("row", OLD)), book_of(FOLK + "10 1 ask dot; 10 2 ask bet"), END)
        self.assertEqual(repr(told), "[(0, 10, 2, 'bet', ('row', (('dot', 0),)))]")


class TestAsTold(unittest.TestCase):
    def test_of_books_made_by_a_seed(self):
        for deed, book, moment, facts in walked_books():
            self.assertEqual(history(deed, book, moment), facts["history"])
            self.assertEqual(history(deed, up_to(book, moment), moment), facts["history"])

    def test_what_comes_of_it(self):
        for deed, book, moment, _ in walked_books():
            told, turns = history(deed, book, moment), turn_rows(deed, book, moment)
            for place, who in enumerate(placed(deed, book, moment)):
                mine = [row for row in told if row[0] == place]
                if who:
                    self.assertEqual((mine[-1][3],) + mine[-1][1:3], who)
                self.spends(deed[3][1], [row[1:3] for row in mine], [turn for turn in turns if turn[1] == place])
            # By one that is "named" the place went to that NAME.
            named = [(row[4][1], row[0], row[3]) for row in told if row[4][0] == "named"]
            ended = [(turn, place, end[1]) for turn, place, _, end in turns if end[0] == "named"]
            self.assertEqual(sorted(named), ended)
            later = history(deed, book, (min(moment[0] + 20, 99999), 1000))
            self.assertEqual(later[:len(told)], told)

    def spends(self, tries, moments, turns):
        """Of the turns given while the place was EMPTY one time at most tries are SPENT."""
        spent = [(end[1] if end[0] == "spent" else day, 1000)
                 for _, _, day, end in turns if end[0] in ("spent", "left")]
        for start, end in zip([(-1, 0)] + moments, moments + [(10 ** 6, 0)]):
            self.assertLessEqual(len([moment for moment in spent if start < moment <= end]), tries)

    def test_what_is_told_is_the_askers_own(self):
        book, deed = book_of(FOLK + "10 1 ask dot; 10 2 ask bet"), deed_of(("row", OLD))
        told = history(deed, book, END)
        told[0] = told[0][:1]
        told.append(7)
        self.assertEqual([row[3] for row in history(deed, book, END)], ["bet"])
