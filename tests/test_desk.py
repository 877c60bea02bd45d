import unittest

from almsrow.desk import Desk
from almsrow.errors import AlmsError, NoBack, NoName, NoPage, NoPlace, NoRow, NoWeek
from almsrow.gowns import gowns
from almsrow.house import placed, row, why_not
from almsrow.readings import read_book, read_deed
from almsrow.reckoning import owed
from almsrow.texts import book_lines, deed_lines
from tests.common import maker
from tests.slow import NAMES, walked_books
from tests.test_house import FOLK, FOLK_IN
from tests.test_reckoning import LONG

LINES = ("founder fnd", "terms 2 2 2 1", "place row 3 -", "place row 5 -", "seat sir 1", "seat dame 1")
HOUSE = "house alms / " + " / ".join(LINES)


def lines_of(text):
    return [" ".join(line.split()) for line in text.split(";") if line.strip()]


def desk_with(text, house=HOUSE):
    """A desk with one register, alms, that was told the lines."""
    desk = Desk()
    desk.say(house)
    for line in lines_of(text):
        desk.say("tell alms " + line)
    return desk


class DeskCase(unittest.TestCase):
    def say(self, desk, *rows):
        """Rows, each with what is answered behind it."""
        for asked, due in zip(rows[::2], rows[1::2]):
            told = desk.say(asked)
            self.assertEqual(told, due, asked)
            self.assertIs(type(told), str)

    def no_row(self, desk, *rows):
        for asked in rows:
            with self.assertRaises(NoRow, msg=asked) as caught:
                desk.say(asked)
            self.assertEqual(caught.exception.row, asked)

    def refuse(self, kind, desk, asked, **fields):
        with self.assertRaises(kind) as caught:
            desk.say(asked)
        self.assertEqual(vars(caught.exception), fields)


class TestHouses(DeskCase):
    def test_three_and_a_fourth_one(self):
        desk = Desk()
        for name in ("a", "b", "abcdefgh"):
            self.say(desk, HOUSE.replace("alms", name), "ok", f"book {name}", "none", f"deeds {name}", "0")
            self.no_row(desk, HOUSE.replace("alms", name))
        self.no_row(desk, HOUSE, HOUSE.replace("alms", "c"), HOUSE.replace("alms", "a"))
        self.say(desk, "deeds a", "0")
        self.no_row(desk, "deeds alms", "deeds c")

    def test_one_that_is_refused_is_none(self):
        desk = Desk()
        self.no_row(desk, HOUSE[:-2], "deeds alms")
        self.say(desk, HOUSE, "ok")

    def test_no_row(self):
        lines = " / ".join(LINES)
        self.no_row(desk_with(""), "house", "house alms", "house n", "house n /", "house n / /", "house n " + lines,
                    "house / " + lines, "house Alms / " + lines, "house ninesigns / " + lines, "house - / " + lines,
                    HOUSE, "house n / " + lines + " /", "house n / " + lines + " / ", "house n /  / " + lines,
                    "house n / / " + lines, "house n // " + lines, "house n m / " + lines, " house n / " + lines,
                    "house n  / " + lines, "house n / " + " // ".join(LINES), "house n /" + lines,
                    "house n / " + " /".join(LINES), "house n / " + "/".join(LINES), "House n / " + lines,
                    "house n ; " + lines, "house n / " + "; ".join(LINES), "house n / " + " / ".join(LINES[::-1]))
        for k in range(6):
            self.no_row(desk_with(""), "house n / " + " / ".join(LINES[:k] + ("x",) + LINES[k + 1:]))
        for k in range(5):
            self.no_row(desk_with(""), "house n / " + " / ".join(LINES[:k]))
        for bad in ("place row 0 -", "place row 01 -", "place row 1000000000000 -", "place row 1 town:b,a", "place row 1"):
            self.no_row(desk_with(""), "house n / " + " / ".join(LINES[:2] + (bad,) + LINES[3:]))

    def test_deeds_made_by_a_seed(self):
        for deed, _, _, _ in walked_books()[::20]:
            text = " / ".join(deed_lines(deed))
            self.say(Desk(), "house n / " + text, "ok")
            self.assertEqual(read_deed(text.split(" / ")), deed)


class TestBooks(DeskCase):
    def test_tell_and_strike(self):
        desk = desk_with("")
        self.say(desk, "tell alms 5 0 rent 5", "new", "tell alms 5 0 rent 5", "there", "tell alms 4 9 go ann", "new",
                 "book alms", "4 9 go ann; 5 0 rent 5", "deeds alms", "2", "strike alms 5 0 rent 5", "ok",
                 "book alms", "4 9 go ann", "deeds alms", "3", "tell alms 5 0 folk ann ely -999999999999 -", "new",
                 "tell alms 5 0 folk bet ann 5 ann", "new", "strike alms 4 9 go ann", "ok",
                 "book alms", "5 0 folk ann ely -999999999999 -; 5 0 folk bet ann 5 ann")

    def test_what_a_register_refuses(self):
        desk = desk_with("5 0 rent 5")
        self.refuse(NoPage, desk, "strike alms 5 0 rent 6", word="none")
        for k in range(59):
            self.say(desk, f"tell alms {k} 1 rent 5", "new")
        self.refuse(NoPage, desk, "tell alms 5 0 rent 6", word="many")
        self.say(desk, "tell alms 5 0 rent 5", "there", "deeds alms", "60")
        self.say(desk, HOUSE.replace("alms", "b"), "ok", "tell b 0 0 rent 1", "new", "take alms alms", "0")
        self.refuse(NoPage, desk, "take alms b", word="many")
        self.refuse(NoPage, desk, "take b alms", word="many")
        self.say(desk, "strike alms 5 0 rent 5", "ok", "take alms b", "1", "take b alms", "59")

    def test_no_row_to_tell(self):
        for word in ("tell", "strike"):
            self.no_row(desk_with("5 0 rent 5"), word, word + " alms", word + " alms ", word + " 5 0 rent 5",
                        word + " n 5 0 rent 5", word + " alms alms 5 0 rent 5", word + " alms 5 0 rent", word + " alms 5 0 rent 5 5",
                        word + " alms 5 0 rent -5", word + " alms 5 0 rent 05", word + " alms 5  0 rent 5",
                        word + " alms  5 0 rent 5", word + " alms 5 0 rent 5 ", " " + word + " alms 5 0 rent 5",
                        word + " alms 5 0 rent 1000000000000", word + " alms 5 0 heir ann ann",
                        word + " alms 5 0 folk ann ely 6 -", word + " alms 5.0 rent 5", word + " alms 5 0 rent 5; 5 0 rent 6",
                        word + "s alms 5 0 rent 5", word.upper() + " alms 5 0 rent 5")

    def test_back(self):
        desk = desk_with("5 0 rent 5; 4 9 go ann")
        self.say(desk, HOUSE.replace("alms", "b"), "ok", "tell b 5 0 rent 5", "new", "tell b 6 0 folk ann ely 0 -", "new",
                 "tell b 7 0 ask ann", "new", "take alms b", "2", "strike alms 5 0 rent 5", "ok", "take alms b", "1",
                 "back alms", "take 1", "back alms", "strike 5 0 rent 5", "back alms", "take 2", "back alms", "tell 4 9 go ann",
                 "deeds alms", "1", "book alms", "5 0 rent 5", "back b", "tell 7 0 ask ann", "back b", "tell 6 0 folk ann ely 0 -",
                 "back alms", "tell 5 0 rent 5", "book alms", "none")
        self.refuse(NoBack, desk, "back alms")
        self.no_row(desk, "back", "back n", "back alms alms", "back alms 1", "back  alms", "back alms ", "Back alms", "backs alms")

    def test_books_and_elder_ones(self):
        desk = desk_with("5 0 rent 5; 4 9 go ann")
        desk.say("strike alms 5 0 rent 5")
        self.say(desk, "elder alms 0", "none", "elder alms 1", "5 0 rent 5", "elder alms 2", "4 9 go ann; 5 0 rent 5",
                 "elder alms 3", "4 9 go ann", "deeds alms", "3")
        for k in (4, 5, 999999999999):
            self.refuse(NoBack, desk, f"elder alms {k}")
        self.no_row(desk, "elder", "elder alms", "elder alms -1", "elder alms 01", "elder alms x", "elder alms 1 1", "elder n 0",
                    "elder alms 1000000000000", "elder 0 alms", "elder alms ", "elder alms -", "elder alms +1", "elder alms 1.0")
        self.no_row(desk, "book", "book n", "book alms alms", "book alms ", " book alms", "book  alms", "Book alms", "books alms",
                    "deeds", "deeds n", "deeds alms 1", "deeds alms ", "deed alms", "deeds ALMS")

    def test_take(self):
        desk = desk_with("5 0 rent 5")
        self.say(desk, "take alms alms", "0", HOUSE.replace("alms", "b"), "ok", "take b alms", "1", "take b alms", "0",
                 "take alms b", "0", "deeds b", "1", "book b", "5 0 rent 5")
        self.no_row(desk, "take", "take alms", "take alms n", "take n alms", "take n n", "take alms b b", "take alms b ",
                    "take alms  b", "take alms 0", "take alms,b", "takes alms b")


class TestLooks(DeskCase):
    DESK = desk_with(FOLK + "10 1 ask cis; 10 2 ask bet; 10 3 ask dot; 15 0 folk eve ely 0 -; 16 0 ask eve; 40 1 go cis")

    def test_placed(self):
        self.say(self.DESK, "placed alms 9.1000", "- -", "placed alms 10.1", "cis -", "placed alms 10.2", "cis bet",
                 "placed alms 40.0", "cis bet", "placed alms 40.1", "dot bet", "placed alms 99999.1000", "dot bet",
                 "placed alms 0.0", "- -")

    def test_row(self):
        self.say(self.DESK, "row alms 10.2", "none", "row alms 10.3", "dot", "row alms 16.0", "dot eve", "row alms 40.1", "eve",
                 "row alms 0.0", "none")

    def test_why(self):
        house = HOUSE.replace("place row 5 -", "place turn 5 town:ely;age:60:-")
        desk = desk_with(FOLK + "10 1 ask dot; 11 0 go cis", house)
        self.say(desk, "why alms 10.0 0 bet", "-", "why alms 10.0 1 bet", "-", "why alms 10.0 1 cis", "0", "why alms 10.0 1 dot", "1",
                 "why alms 10.1 1 dot", "housed", "why alms 11.0 0 cis", "gone", "why alms 10.0 1 nobody", "folk",
                 "why alms 9.1000 0 bet", "folk")
        for place in (2, 999999999999):
            self.refuse(NoPlace, desk, f"why alms 10.0 {place} bet", place=place)
        self.no_row(desk, "why", "why alms", "why alms 10.0", "why alms 10.0 0", "why alms 10.0 0 bet cis", "why alms 10.0 -1 bet",
                    "why alms 10.0 00 bet", "why alms 10.0 1000000000000 bet", "why alms 10.0 0 Bet", "why alms 10.0 0 -",
                    "why alms 10.0 bet 0", "why alms 10 0 0 bet", "why n 10.0 0 bet", "why alms 10.0 2 Bet", "why alms 10.1001 2 bet",
                    "why alms 10.0 0 ninesigns")

    def test_moments(self):
        for asked in ("placed alms {}", "row alms {}", "why alms {} 0 bet", "gowns alms {} bet"):
            self.no_row(self.DESK, *[asked.format(moment) for moment in (
                "10", "10.", ".10", ".", "10.1001", "100000.0", "-1.0", "10.-1", "010.0", "10.00", "10.0.0", "10,0", "10 0", "", "-",
                "10.x", "x.0", "10. 0", "10 .0", "1000000000000.0", "10.0000", "+1.0")])
        self.no_row(self.DESK, "placed", "placed alms", "placed n 10.0", "placed alms 10.0 x", "placed 10.0", "placed alms 10.0 ",
                    "row", "row alms", "row n 10.0", "row alms 10.0 x", "row  alms 10.0", "Row alms 10.0", "rows alms 10.0")

    def test_owed(self):
        desk = desk_with(LONG)
        self.say(desk, "owed alms 1", "none", "owed alms 3", "3 bet 27; 3 cis 17", "owed alms 6",
                 "4 bet 29; 4 cis 17; 5 bet 4; 5 cis 2")
        self.refuse(NoWeek, desk, "owed alms 0", week=0)
        self.refuse(NoWeek, desk_with(""), "owed alms 99999", week=99999)
        self.no_row(desk, "owed", "owed alms", "owed alms -1", "owed alms 01", "owed alms x", "owed alms 1 1", "owed n 1",
                    "owed alms 100000", "owed alms 1.0", "owed alms ", "owed 1", "owed alms bet")

    def test_gowns(self):
        self.say(self.DESK, "gowns alms 10.0 cis", "none", "gowns alms 10.1 cis", "10", "gowns alms 400.0 bet", "10 374",
                 "gowns alms 400.0 cis", "10", "gowns alms 400.0 eve", "none")
        self.refuse(NoName, self.DESK, "gowns alms 9.0 cis", name="cis")
        self.refuse(NoName, self.DESK, "gowns alms 400.0 alms", name="alms")
        self.no_row(self.DESK, "gowns", "gowns alms", "gowns alms 10.0", "gowns alms 10.0 Cis", "gowns alms 10.0 cis cis",
                    "gowns n 10.0 cis", "gowns alms cis 10.0", "gowns alms 10.0 -", "gowns alms 10.0 ninesigns")

    def test_wait(self):
        self.say(self.DESK, "wait alms 20 dot 40,50", "40", "wait alms 20 dot 50,40", "40", "wait alms 20 dot -,40", "40",
                 "wait alms 20 dot 40,-", "40", "wait alms 20 dot -,-", "never", "wait alms 20 eve 40,50", "50",
                 "wait alms 20 eve 50,40", "50", "wait alms 20 eve 40,40", "40", "wait alms 20 eve 40,-", "never",
                 "wait alms 20 eve 21,99999", "99999")
        for name, day in (("cis", 20), ("nobody", 20), ("eve", 15), ("dot", 40)):
            self.refuse(NoName, self.DESK, f"wait alms {day} {name} 50,60", name=name)
        self.refuse(NoName, desk_with(""), "wait alms 20 dot -,-", name="dot")

    def test_untils(self):
        self.no_row(self.DESK, *["wait alms 20 dot " + untils for untils in (
            "", "40", "40,", ",40", "40,50,60", "-", "-,-,-", "20,40", "40,20", "19,40", "0,40", "40,100000", "40,-1", "40,050", "40, 50",
            "40 50", "40;50", "40,x", "40,1000000000000", "40,40.0", "none", "40,,50", "-,", "--,40")])
        # They go ahead of what is refused else.
        self.no_row(self.DESK, "wait alms 20 nobody 20,40", "wait alms 99999 dot 99999,-", "wait", "wait alms", "wait alms 20",
                    "wait alms 20 dot", "wait alms 20 Dot 40,50", "wait n 20 dot 40,50", "wait alms 100000 dot -,-",
                    "wait alms 020 dot 40,50", "wait alms 20.0 dot 40,50", "wait alms 20 dot 40,50 x", "wait alms dot 20 40,50",
                    "wait alms -1 dot 40,50", "waits alms 20 dot 40,50")
        self.say(self.DESK, "wait alms 39 dot 40,-", "40")
        self.refuse(NoName, self.DESK, "wait alms 99999 dot -,-", name="dot")

    def test_one_until_for_each_place(self):
        house = HOUSE.replace("place row 3 -", "place row 3 - / place row 4 -")
        desk = desk_with(FOLK + "10 1 ask cis; 10 2 ask bet; 10 3 ask dot; 15 0 folk eve ely 0 -; 16 0 ask eve", house)
        self.say(desk, "wait alms 20 eve 40,50,60", "40", "wait alms 20 eve -,-,60", "60")
        self.no_row(desk, "wait alms 20 eve 40,50", "wait alms 20 eve 40,50,60,70", "wait alms 20 eve 40")

    def test_looks_turn_nothing(self):
        before = self.DESK.say("book alms"), self.DESK.say("deeds alms")
        for asked in ("placed alms 40.1", "row alms 40.1", "owed alms 9", "gowns alms 40.1 cis", "wait alms 20 eve 40,50",
                      "why alms 40.1 0 bet", "elder alms 3"):
            self.assertEqual(self.DESK.say(asked), self.DESK.say(asked))
        self.assertEqual((self.DESK.say("book alms"), self.DESK.say("deeds alms")), before)


class TestNoRow(DeskCase):
    def test_texts_of_no_form(self):
        self.no_row(desk_with(""), "", " ", "  ", "-", "none", "alms", "deeds", "ask alms", "folk alms", "Deeds alms", "deeds/alms",
                    "deeds alms\n", "deeds\talms", "alms deeds", "/", "house / ", "what is this", "x" * 4000, "0", "say deeds alms",
                    "HOUSE n / " + " / ".join(LINES), "joined alms alms", "~")

    def test_ahead_of_all_else(self):
        # A register would refuse these, were they rows.
        desk = desk_with("")
        self.no_row(desk, "back alms x", "elder alms 7 x", "strike alms 5 0 rent 5 5", "owed alms 0 0", "gowns alms 5.0 nobody x",
                    "why alms 5.0 9 nobody x", "wait alms 5 nobody 6", "tell alms 5 1000 rent 5")

    def test_desks_know_nothing_of_one_another(self):
        one, other = desk_with("5 0 rent 5"), desk_with("")
        self.say(other, "book alms", "none")
        self.say(one, "book alms", "5 0 rent 5")
        self.no_row(Desk(), "book alms")


class TestAsTold(DeskCase):
    def test_what_functions_tell(self):
        rng = maker(81)
        for deed, book, moment, facts in rng.sample(walked_books(), 60):
            desk = Desk()
            desk.say("house n / " + " / ".join(deed_lines(deed)))
            lines = book_lines(book)
            for line in rng.sample(lines, len(lines)):
                self.say(desk, "tell n " + line, "new")
            at = "{}.{}".format(*moment)
            self.say(desk, "book n", "; ".join(lines), "placed n " + at,
                     " ".join(who[0] if who else "-" for who in placed(deed, book, moment)),
                     "row n " + at, " ".join(row(deed, book, moment)) or "none")
            self.assertEqual(read_book(desk.say("book n").split("; ")), book)
            name, place = rng.choice(NAMES), rng.randrange(len(deed[1]))
            why = why_not(deed, book, moment, place, name)
            self.say(desk, f"why n {at} {place} {name}", "-" if why is None else str(why))
            if name in facts["came"]:
                self.say(desk, f"gowns n {at} {name}", " ".join(map(str, gowns(deed, book, moment, name))) or "none")
            week = book[0][0] // 7 + 1
            if week < 14285:
                self.say(desk, f"owed n {week}", "; ".join("{} {} {}".format(*some) for some in owed(deed, book, week)) or "none")

    def test_whatever_is_said_is_answered_or_refused(self):
        rng = maker(811)
        desk = desk_with(FOLK_IN + "5 1 ask bet; 5 2 ask cis; 5 3 ask dot")
        words = "tell strike take back deeds book elder placed row why owed gowns wait house alms b / bet - 5 5.0 0 40,50 rent".split()
        told = []
        for _ in range(6000):
            try:
                told.append(desk.say(" ".join(rng.choice(words) for _ in range(rng.choice((2, 2, 3, 4, 5))))))
            except AlmsError as error:
                told.append(type(error).__name__)
        self.assertLessEqual({"NoRow", "none", "0", "5"}, set(told))
