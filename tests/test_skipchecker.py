import copy
import re
import unittest

from almsrow.books import up_to
from almsrow.errors import NoPaper
from almsrow.history import history
from almsrow.skipchecker import lets_skips
from tests.common import ODD, deep, maker, refusal, spoilt
from tests.slow import book_of, slow_facts, walked_books
from tests.test_house import END, FOLK, FOLK_IN, deed_of

RULES = ((("town", ("bath", "ely")),), (("age", 60, None), ("far", 9)), (("age", 60, None),))
DEED = deed_of(("turn", ()), ("row", RULES), terms=(9, 9, 0, 1))
BOOK = book_of(FOLK_IN + "5 1 ask dot; 5 2 ask cis; 5 3 folk eve ely 5 -; 5 4 ask eve; 5 5 ask bet; "
                         "5 6 folk fay ely -21840 -;"
               "6 0 name sir 0 fay; 10 0 folk gil ely 0 -; 10 1 ask gil")
SKIPS = (("dot", 2), ("cis", 0), ("eve", 2))


def skip_fault(due, thing):
    """The word and the place by which a thing is not the skips that are due, or None."""
    if type(thing) is not tuple or not all(type(pair) is tuple and is_skip(*pair) for pair in thing):
        return ("shape", -1)
    for j, (name, number) in enumerate(thing):
        if j >= len(due) or due[j][0] != name:
            return ("name", j)
        if number != due[j][1]:
            return ("clause", j)
    return ("few", len(thing)) if len(thing) < len(due) else None


def is_skip(*pair):
    if [type(part) for part in pair] != [str, int]:
        return False
    return re.fullmatch("[a-z]{1,8}", pair[0]) is not None and pair[1] >= 0


class TestLetsSkips(unittest.TestCase):
    def refuse(self, thing, word, at):
        self.assertEqual(refusal(lets_skips, DEED, BOOK, END, 1, thing), (word, at), thing)

    def test_the_skips_told(self):
        told = history(DEED, BOOK, END)
        self.assertEqual(told, [(0, 6, 0, "fay", ("named", 0, "sir")), (1, 10, 1, "bet", ("row", SKIPS))])
        for moment in ((10, 1), (10, 1000), END):
            self.assertIs(lets_skips(DEED, BOOK, moment, 1, SKIPS), True)
        self.assertIs(lets_skips(DEED, up_to(BOOK, (10, 1)), (10, 1), 1, told[1][4][1]), True)

    def test_shape(self):
        for thing in [thing for thing in ODD if thing != ()] + [deep(30), list(SKIPS), SKIPS[0], SKIPS + (None,),
                                                                SKIPS + ((),)]:
            self.refuse(thing, "shape", -1)
        for pair in (["dot", 2], ("dot",), ("dot", 2, 2), (2, "dot"), ("", 2), ("Dot", 2), ("ninesigns", 2), (None, 2),
                     (("dot",), 2),
                     ("dot", -1), ("dot", None), ("dot", True), ("dot", False), ("dot", "2"), ("dot", (2,)), "do"):
            self.refuse((pair,) + SKIPS[1:], "shape", -1)
            # It goes ahead of all other words.
            self.refuse((("nobody", 9), pair), "shape", -1)

    def test_names(self):
        self.refuse((("cis", 0),) + SKIPS[1:], "name", 0)
        self.refuse((SKIPS[1], SKIPS[0]), "name", 0)
        self.refuse((SKIPS[0], SKIPS[0], SKIPS[2]), "name", 1)
        self.refuse((SKIPS[0], SKIPS[2]), "name", 1)
        self.refuse(SKIPS[:2] + (("nobody", 2),), "name", 2)
        # Who got the place, and who stood behind.
        self.refuse(SKIPS + (("bet", 0),), "name", 3)
        self.refuse(SKIPS + (("gil", 2),), "name", 3)
        self.refuse(SKIPS + (("bet", 0), ("gil", 2)), "name", 3)
        self.refuse((("bet", 0),), "name", 0)
        self.refuse((("fay", 0),), "name", 0)

    def test_clauses(self):
        # There is none of that number; it holds; one ahead doesn't.
        self.refuse((("dot", 3),) + SKIPS[1:], "clause", 0)
        self.refuse((("dot", 10 ** 59),) + SKIPS[1:], "clause", 0)
        self.refuse((("dot", 0),) + SKIPS[1:], "clause", 0)
        self.refuse((("dot", 1),) + SKIPS[1:], "clause", 0)
        self.refuse((SKIPS[0], ("cis", 2), SKIPS[2]), "clause", 1)
        self.refuse((SKIPS[0], ("cis", 1), SKIPS[2]), "clause", 1)
        self.refuse((SKIPS[0], SKIPS[1], ("eve", 1)), "clause", 2)

    def test_pair_by_pair(self):
        # A clause of a pair ahead goes ahead of a name behind; of one pair the name goes ahead.
        self.refuse((("dot", 1), ("nobody", 0)), "clause", 0)
        self.refuse((("nobody", 9), ("cis", 9)), "name", 0)
        self.refuse((SKIPS[0], ("nobody", 9)), "name", 1)
        self.refuse((("dot", 9),), "clause", 0)

    def test_few(self):
        self.refuse((), "few", 0)
        self.refuse(SKIPS[:1], "few", 1)
        self.refuse(SKIPS[:2], "few", 2)

    def test_of_no_skips(self):
        deed = deed_of(("row", ()))
        book = book_of(FOLK + "10 1 ask bet; 10 2 ask cis; 12 0 go bet")
        for number in (0, 1):
            self.assertIs(lets_skips(deed, book, END, number, ()), True)
            for name in ("bet", "cis", "dot"):
                self.assertEqual(refusal(lets_skips, deed, book, END, number, ((name, 0),)), ("name", 0))

    def test_nothing_is_changed_nor_remembered(self):
        things = [list(SKIPS), (["dot", 2], ["cis"]), [[["dot"], 2]]]
        before = copy.deepcopy(things)
        for _ in range(2):
            for thing in things:
                self.refuse(thing, "shape", -1)
            self.assertIs(lets_skips(DEED, BOOK, END, 1, SKIPS), True)
        self.assertEqual(things, before)


class TestAsTold(unittest.TestCase):
    def test_skips_told_and_skips_spoilt(self):
        rng = maker(52)
        words = {}
        for deed, book, moment, facts in walked_books():
            rows = [k for k, row in enumerate(facts["history"]) if row[4][0] == "row"]
            some = [k for k in rows if facts["history"][k][4][1]] or rows[:1]
            for number in some:
                due = facts["history"][number][4][1]
                self.assertIs(lets_skips(deed, book, moment, number, due), True)
                for _ in range(8):
                    bad = spoilt(rng, due) if rng.random() < 0.7 else due + due[:1]
                    fault = skip_fault(due, bad)
                    if fault is None:
                        self.assertIs(lets_skips(deed, book, moment, number, bad), True)
                        self.assertEqual(bad, due)
                    else:
                        self.assertEqual(refusal(lets_skips, deed, book, moment, number, bad), fault)
                        words[fault[0]] = words.get(fault[0], 0) + 1
        self.assertEqual({"shape", "name", "clause", "few"}, set(words))

    def test_just_one_is_let_by(self):
        pairs = [(name, k) for name in ("bet", "cis", "dot", "eve") for k in range(3)]
        passed = []
        for thing in [(first, second, third) for first in pairs for second in pairs for third in pairs]:
            try:
                lets_skips(DEED, BOOK, END, 1, thing)
                passed.append(thing)
            except NoPaper:
                pass
        self.assertEqual(passed, [slow_facts(DEED, BOOK, END)["history"][1][4][1]])
