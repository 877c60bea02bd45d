import copy
import unittest

from almsrow.texts import book_lines, deed_lines, page_line, rules_word
from tests.test_house import SEATS

# Of every kind.
PAGES = (
    ((12, 0, "folk", "ann", "ely", -20020, ""), "12 0 folk ann ely -20020 -"),
    ((0, 999, "folk", "ann", "ann", 0, "bet"), "0 999 folk ann ann 0 bet"),
    ((99999, 10, "folk", "abcdefgh", "y", 99999, "z"), "99999 10 folk abcdefgh y 99999 z"),
    ((3, 4, "heir", "sir", "dame"), "3 4 heir sir dame"),
    ((3, 4, "sell", "sir", "folk"), "3 4 sell sir folk"),
    ((3, 4, "away", "ann", 400), "3 4 away ann 400"),
    ((3, 4, "rent", 0), "3 4 rent 0"),
    ((3, 4, "rent", 10 ** 11), "3 4 rent 100000000000"),
    ((3, 4, "ask", "ask"), "3 4 ask ask"),
    ((3, 4, "name", "sir", 0, "sir"), "3 4 name sir 0 sir"),
    ((3, 4, "name", "sir", 17, "ann"), "3 4 name sir 17 ann"),
    ((3, 4, "go", "ann"), "3 4 go ann"),
)

# Of every kind of literal.
RULES = (
    ((), "-"),
    (((("age", 60, None), ("kin", 2)), (("town", ("ely", "york")),)), "age:60:-|kin:2;town:ely,york"),
    (((("age", 0, None),),), "age:0:-"),
    (((("age", 0, 1),),), "age:0:1"),
    (((("age", 60, 999999999999),),), "age:60:999999999999"),
    (((("town", ("a",)),),), "town:a"),
    (((("town", ("town",)), ("out", ("age", "kin", "out"))),), "town:town|out:age,kin,out"),
    (((("kin", 0),), (("far", 0),), (("far", 12),)), "kin:0;far:0;far:12"),
    (((("kin", 2),), (("kin", 2),)), "kin:2;kin:2"),
    (((("kin", 2), ("kin", 2)),), "kin:2|kin:2"),
)

DEEDS = (
    (("ann", (("row", 1, ()),), (("sir", 1),), (1, 1, 0, 1)),
     ["founder ann", "terms 1 1 0 1", "place row 1 -", "seat sir 1"]),
    (("sir", (("turn", 12, RULES[1][0]), ("row", 9, ()), ("turn", 12, ())), SEATS + (("sir", 20),), (30, 2, 14, 9)),
     ["founder sir", "terms 30 2 14 9", "place turn 12 age:60:-|kin:2;town:ely,york", "place row 9 -", "place turn 12 -",
      "seat sir 1", "seat dame 1", "seat sir 20"]),
)


class TestTexts(unittest.TestCase):
    def test_pages(self):
        for page, line in PAGES:
            self.assertEqual(page_line(page), line)

    def test_rules(self):
        for rules, word in RULES:
            self.assertEqual(rules_word(rules), word)

    def test_books(self):
        self.assertEqual(book_lines(()), [])
        book = tuple(page for page, _ in PAGES[3:])
        told = book_lines(book)
        self.assertEqual(told, [line for _, line in PAGES[3:]])
        self.assertIs(type(told), list)

    def test_deeds(self):
        for deed, lines in DEEDS:
            told = deed_lines(deed)
            self.assertEqual(told, lines)
            self.assertIs(type(told), list)

    def test_what_is_told_is_the_askers_own(self):
        before = copy.deepcopy((PAGES, DEEDS))
        for call, thing in ((book_lines, (PAGES[3][0],)), (deed_lines, DEEDS[0][0])):
            due = call(thing)
            call(thing).clear()
            self.assertEqual(call(thing), due)
        self.assertEqual((PAGES, DEEDS), before)
