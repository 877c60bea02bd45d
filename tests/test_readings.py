import copy
import unittest

from almsrow.books import in_order, is_book
from almsrow.deeds import is_deed
from almsrow.errors import NoText
from almsrow.kinds import is_rules
from almsrow.pages import is_page
from almsrow.readings import read_book, read_deed, read_page, read_rules
from almsrow.texts import book_lines, deed_lines, page_line, rules_word
from tests.common import maker, some_rules
from tests.slow import some_deed, walked_books
from tests.test_texts import DEEDS, PAGES, RULES

# No numbers from 0 on, by which of a word, whatever asks for one.
NO_COUNTS = ("00", "01", "007", "-0", "-00", "-1", "+1", "--1", "1-", "1.0", "1_0", "0x1", "one", "-", "1,0", "1:0", "1/2",
             "1234567890123", "1000000000000", "0" * 13, "9" * 60, "9" * 4000)
NO_NAMES = ("Ann", "ninesigns", "-", "0", "a1", "a-b", "an,n", "an|n", "~", "ANN", "a.b", "abcdefghi")


class ReadingCase(unittest.TestCase):
    def refuse(self, call, thing, row, word):
        with self.assertRaises(NoText) as caught:
            call(thing)
        self.assertEqual((caught.exception.row, caught.exception.word), (row, word), thing)

    def refuse_words(self, call, start, words, end=""):
        """Each of the words can't stand behind the start, whatever comes behind it."""
        at = len(start.split(" ")) - 1
        for word in words:
            self.refuse(call, start + word, 0, at)
            self.refuse(call, start + word + " " + end, 0, at)


class TestPages(ReadingCase):
    def test_what_was_written(self):
        for page, line in PAGES:
            self.assertEqual(read_page(line), page)
            self.assertTrue(is_page(read_page(line)))
        for _, book, _, _ in walked_books():
            for page in book:
                self.assertEqual(read_page(page_line(page)), page)

    def test_at_their_bounds(self):
        for line in ("0 0 rent 0", "99999 999 rent 999999999999", "0 0 folk ann ely -999999999999 -", "5 0 folk ann ely 5 -",
                     "0 0 folk ann ely 0 -", "5 0 away ann 1", "5 0 away ann 999999999999", "5 0 name sir 999999999999 ann"):
            self.assertEqual(page_line(read_page(line)), line)

    def test_moments(self):
        self.refuse_words(read_page, "", NO_COUNTS + ("100000", "999999999999", ""), "0 rent 5")
        self.refuse_words(read_page, "5 ", NO_COUNTS + ("1000", "999999999999", ""), "rent 5")

    def test_kinds(self):
        self.refuse_words(read_page, "5 0 ", ("", "Folk", "folks", "fol", "evening", "0", "-", "folk,heir", "ann"), "ann")

    def test_folk(self):
        self.refuse_words(read_page, "5 0 folk ", NO_NAMES + ("",), "ely 5 -")
        self.refuse_words(read_page, "5 0 folk ann ", NO_NAMES + ("",), "5 -")
        self.refuse_words(read_page, "5 0 folk ann ely ", [word for word in NO_COUNTS if word != "-1"] + ["6", "10", ""], "-")
        self.refuse_words(read_page, "0 0 folk ann ely ", ("1", "-1000000000000", "-01", "-0"), "-")
        # The parent is - or another name.
        self.refuse_words(read_page, "5 0 folk ann ely 5 ", [word for word in NO_NAMES if word != "-"] + ["ann", "", "--"])
        self.assertEqual(read_page("5 0 folk ann ann 5 ely"), (5, 0, "folk", "ann", "ann", 5, "ely"))

    def test_heirs_and_sales(self):
        for kind in ("heir", "sell"):
            self.refuse_words(read_page, f"5 0 {kind} ", NO_NAMES + ("",), "ann")
            self.refuse_words(read_page, f"5 0 {kind} ann ", NO_NAMES + ("ann", ""))

    def test_other_kinds(self):
        self.refuse_words(read_page, "5 0 away ", NO_NAMES + ("",), "5")
        self.refuse_words(read_page, "5 0 away ann ", NO_COUNTS + ("0", "", "ann"))
        self.refuse_words(read_page, "5 0 rent ", NO_COUNTS + ("", "ann"))
        for kind in ("ask", "go"):
            self.refuse_words(read_page, f"5 0 {kind} ", NO_NAMES + ("",))
        self.refuse_words(read_page, "5 0 name ", NO_NAMES + ("",), "0 ann")
        self.refuse_words(read_page, "5 0 name sir ", NO_COUNTS + ("", "ann"), "ann")
        self.refuse_words(read_page, "5 0 name sir 0 ", NO_NAMES + ("", "0"))
        self.assertEqual(read_page("5 0 name sir 0 sir"), (5, 0, "name", "sir", 0, "sir"))

    def test_words_that_lack(self):
        for _, line in PAGES:
            words = line.split(" ")
            for many in range(1, len(words)):
                self.refuse(read_page, " ".join(words[:many]), 0, many)

    def test_words_too_many(self):
        for _, line in PAGES:
            for more in ("-", "ann", "0", ""):
                self.refuse(read_page, line + " " + more, 0, len(line.split(" ")))
                self.refuse(read_page, line + " " + more + " x", 0, len(line.split(" ")))

    def test_void_words(self):
        self.refuse(read_page, "", 0, 0)
        self.refuse(read_page, " ", 0, 0)
        for _, line in PAGES:
            words = line.split(" ")
            for k in range(len(words)):
                self.refuse(read_page, " ".join(words[:k] + [""] + words[k:]), 0, k)
        # Only blanks part words.
        self.refuse(read_page, "5 0 rent\t5", 0, 2)
        self.refuse(read_page, "5 0 rent 5\n", 0, 3)

    def test_the_first_word_goes(self):
        self.refuse(read_page, "100000 1000 none", 0, 0)
        self.refuse(read_page, "5 1000 none Ann", 0, 1)
        self.refuse(read_page, "5 0 heir ann ann ann", 0, 4)

    def test_lines_spoilt(self):
        """The words ahead of the one told can go on to a page, with that one they can't."""
        tails = sorted({tuple(line.split(" ")[k:]) for _, line in PAGES for k in range(8)} | {("0", "zoe"), ("zoe",), ("-7", "-")})
        rng, words = maker(78), set()
        for _ in range(400):
            page, line = rng.choice(PAGES)
            some = line.split(" ")
            k = rng.randrange(len(some))
            some[k:k + rng.choice((0, 1, 1))] = [rng.choice(("", "ann", "-", "0", "7", "1000", "ely", "folk", "Ann", "-5", some[k]))]
            try:
                self.assertEqual(page_line(read_page(" ".join(some))), " ".join(some))
            except NoText as error:
                self.assertEqual(error.row, 0)
                self.assertTrue(self.goes_on(some[:error.word], tails), (some, error.word))
                if error.word < len(some):
                    self.assertFalse(self.goes_on(some[:error.word + 1], tails), (some, error.word))
                words.add(error.word)
        self.assertLessEqual({0, 1, 2, 3, 4, 5, 6}, words)

    def goes_on(self, words, tails):
        for tail in tails:
            try:
                read_page(" ".join(words + list(tail)))
                return True
            except NoText:
                pass
        return False


class TestRules(ReadingCase):
    def test_what_was_written(self):
        rng = maker(77)
        for rules in [rules for rules, _ in RULES] + [some_rules(rng, 6, 3) for _ in range(100)]:
            told = read_rules(rules_word(rules))
            self.assertEqual(told, rules)
            self.assertTrue(is_rules(told))

    def test_words_that_write_none(self):
        for word in ("", "--", "-;kin:2", "kin:2;-", "-|kin:2", ";", "|", "kin:2;", ";kin:2", "kin:2|", "|kin:2", "kin:2;;kin:2",
                     "kin:2||kin:2", "kin", "kin:", ":", "kin:2:", ":kin:2", "kin:2:2", "far:", "far:-", "kin:-", "age",
                     "age:60", "age:60:", "age::60", "age:60:-:", "age:-:60", "age:-:-", "age:60:60", "age:60:59", "age:0:0",
                     "age:60:-|", "town", "town:", "town:,", "town:ely,", "town:,ely", "town:ely,,york", "town:york,ely",
                     "town:ely,ely", "town:Ely", "town:ninesigns", "town:ely:york", "town:-", "town:1", "out:york,ely",
                     "out:", "Town:ely", "KIN:2", "near:2", "near:60:70", "ages:60:-", "kin:2:3", "town:5:7", "near:ely", "age:ely", "kin:2,3", "kin=2", "2", "none", "age:60:-,kin:2", "town:ely;york"):
            self.refuse(read_rules, word, 0, 0)
            if word != "":
                self.refuse(read_rules, word + " -", 0, 0)
        for number in NO_COUNTS:
            for word in ("kin:" + number, "far:" + number, "age:" + number + ":-", "kin:2|far:" + number):
                self.refuse(read_rules, word, 0, 0)
            if number != "-":
                self.refuse(read_rules, "age:0:" + number, 0, 0)
        self.assertEqual(read_rules("age:0:999999999999"), ((("age", 0, 999999999999),),))

    def test_just_one_word(self):
        self.refuse(read_rules, "- -", 0, 1)
        self.refuse(read_rules, "kin:2 ", 0, 1)
        self.refuse(read_rules, "kin:2 ; kin:2", 0, 1)
        self.refuse(read_rules, " kin:2", 0, 0)
        self.refuse(read_rules, " ", 0, 0)

    def test_more_than_may_be_handed_in(self):
        word = ";".join(["town:a,b,c,d,e,f|age:500:600|kin:300|far:7"] * 20)
        self.assertEqual(rules_word(read_rules(word)), word)


class TestBooks(ReadingCase):
    LINES = [line for _, line in PAGES]

    def test_what_was_written(self):
        for _, book, _, _ in walked_books()[::5]:
            self.assertEqual(read_book(book_lines(book)), book)
        self.assertEqual(read_book([]), ())

    def test_in_any_order_and_twice(self):
        book = in_order([page for page, _ in PAGES])
        self.assertTrue(is_book(book))
        for lines in (self.LINES, self.LINES[::-1], self.LINES + self.LINES, self.LINES[3:] + self.LINES[:5]):
            self.assertEqual(read_book(lines), book)
        self.assertEqual(read_book(["5 0 rent 5"] * 3), ((5, 0, "rent", 5),))

    def test_the_first_line_that_writes_none(self):
        for row in range(len(self.LINES) + 1):
            for bad, word in (("", 0), ("5", 1), ("5 0 folk ann ely 6 -", 5), ("5 0 go ann ", 4), ("founder ann", 0)):
                lines = self.LINES[:row] + [bad] + self.LINES[row:]
                self.refuse(read_book, lines, row, word)
                self.refuse(read_book, lines + ["Bad"], row, word)

    def test_nothing_is_changed(self):
        lines = self.LINES[::-1]
        before = copy.copy(lines)
        read_book(lines)
        self.assertEqual(lines, before)


class TestDeeds(ReadingCase):
    LINES = DEEDS[1][1]

    def put(self, row, line):
        return self.LINES[:row] + [line] + self.LINES[row + 1:]

    def test_what_was_written(self):
        rng = maker(79)
        for deed in [deed for deed, _ in DEEDS] + [some_deed(rng) for _ in range(60)]:
            told = read_deed(deed_lines(deed))
            self.assertEqual(told, deed)
            self.assertTrue(is_deed(told))

    def test_more_than_may_be_handed_in(self):
        lines = ["founder ann", "terms 999999999999 5 999999999999 10"] + ["place row 999999999999 -"] * 9 + ["seat a 9999"] * 7
        self.assertEqual(deed_lines(read_deed(lines)), lines)

    def test_founders(self):
        for bad, word in (("", 0), ("Founder ann", 0), ("founder", 1), ("founder ", 1), ("founder Ann", 1), ("founder -", 1),
                          ("founder ann ", 2), ("founder ann bet", 2), (" founder ann", 0), ("terms 30 2 14 9", 0),
                          ("place row 9 -", 0), ("seat sir 1", 0), ("founder  ann", 1), ("5 0 rent 5", 0)):
            self.refuse(read_deed, self.put(0, bad), 0, word)
            self.refuse(read_deed, [bad], 0, word)

    def test_terms(self):
        for k, term in enumerate(("30", "2", "14", "9")):
            for number in NO_COUNTS + ("", "x") + (() if k == 2 else ("0",)):
                words = ["terms", "30", "2", "14", "9"]
                words[k + 1] = number
                self.refuse(read_deed, self.put(1, " ".join(words)), 1, k + 1)
            self.refuse(read_deed, self.put(1, " ".join(["terms", "30", "2", "14", "9"][:k + 1])), 1, k + 1)
        self.assertEqual(read_deed(self.put(1, "terms 1 1 0 1"))[3], (1, 1, 0, 1))
        for bad, word in (("terms 30 2 14 9 9", 5), ("terms 30 2 14 9 ", 5), ("term 30 2 14 9", 0), ("founder sir", 0),
                          ("place row 9 -", 0), ("seat sir 1", 0), ("", 0)):
            self.refuse(read_deed, self.put(1, bad), 1, word)

    def test_places(self):
        for row in (2, 3, 4):
            for bad, word in (("place", 1), ("place Row", 1), ("place rows 9 -", 1), ("place  9 -", 1), ("place row", 2),
                              ("place row 0 -", 2), ("place row -1 -", 2), ("place row 09 -", 2), ("place row x -", 2),
                              ("place turn 1000000000000 -", 2), ("place row 9", 3), ("place row 9 ", 3),
                              ("place row 9 kin:", 3), ("place row 9 town:york,ely", 3), ("place row 9 age:60:60", 3),
                              ("place row 9 kin:1234567890123", 3), ("place row 9 - -", 4), ("place row 9 kin:2 ", 4),
                              ("place row 9 kin:2; kin:3", 3), ("Place row 9 -", 0), ("", 0), ("founder ann", 0),
                              ("terms 30 2 14 9", 0), ("row 9 -", 0)):
                self.refuse(read_deed, self.put(row, bad), row, word)

    def test_seats(self):
        for row in (5, 6, 7):
            for bad, word in (("seat", 1), ("seat Sir 1", 1), ("seat - 1", 1), ("seat  1", 1), ("seat sir", 2), ("seat sir 0", 2),
                              ("seat sir -1", 2), ("seat sir 01", 2), ("seat sir x", 2), ("seat sir 1000000000000", 2),
                              ("seat sir 1 1", 3), ("seat sir 1 ", 3), ("Seat sir 1", 0), ("", 0), ("founder ann", 0),
                              ("terms 30 2 14 9", 0)):
                self.refuse(read_deed, self.put(row, bad), row, word)

    def test_lines_out_of_their_order(self):
        # A place behind the first seat, a seat ahead of the first place.
        self.refuse(read_deed, self.LINES + ["place row 9 -"], 8, 0)
        self.refuse(read_deed, self.LINES[:6] + ["place row 9 -"] + self.LINES[6:], 6, 0)
        self.refuse(read_deed, self.LINES[:2] + self.LINES[5:] + self.LINES[2:5], 2, 0)
        self.refuse(read_deed, self.LINES[1:2] + self.LINES[:1] + self.LINES[2:], 0, 0)
        self.refuse(read_deed, self.LINES + ["founder ann"], 8, 0)
        self.refuse(read_deed, self.LINES + ["terms 1 1 0 1"], 8, 0)
        self.refuse(read_deed, self.LINES + [""], 8, 0)
        self.refuse(read_deed, self.LINES[:1] * 2 + self.LINES[1:], 1, 0)
        self.refuse(read_deed, self.LINES[:2] + self.LINES[1:], 2, 0)

    def test_lines_that_lack(self):
        for many in range(6):
            self.refuse(read_deed, self.LINES[:many], many, 0)
        for many in range(6, 9):
            self.assertTrue(is_deed(read_deed(self.LINES[:many])))
        self.refuse(read_deed, self.LINES[1:], 0, 0)
        self.refuse(read_deed, self.LINES[:1] + self.LINES[2:], 1, 0)
        # A line that is there and writes none goes ahead of those that lack.
        self.refuse(read_deed, ["founder ann", "terms 1"], 1, 2)
        self.refuse(read_deed, self.LINES[:2] + ["place row 0 -"], 2, 2)

    def test_the_first_line_goes(self):
        self.refuse(read_deed, ["founder ann", "terms 1 1 0 0", "place Row"], 1, 4)
        self.refuse(read_deed, ["founder Ann", "terms 1 1 0 0"], 0, 1)

    def test_nothing_is_changed(self):
        lines = list(self.LINES)
        read_deed(lines)
        self.assertEqual(lines, self.LINES)
