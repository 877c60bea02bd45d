"""What point 3 names, over the whole program: papers by whoever, books however they came."""

import copy
import unittest

from almsrow.away import away_days, lost_days
from almsrow.books import in_order, is_book, joined, up_to, with_page, without_page
from almsrow.casechecker import lets_cases
from almsrow.cases import longest
from almsrow.clashchecker import lets_clash
from almsrow.clashing import least_clash
from almsrow.comparechecker import lets_within
from almsrow.comparing import within
from almsrow.counting import counted, dues
from almsrow.errors import AlmsError
from almsrow.folk import born_of, folk_at, gone, town_of, type_at
from almsrow.forests import is_forest
from almsrow.gowns import gowns
from almsrow.having import has
from almsrow.history import history
from almsrow.holders import heirs, holders
from almsrow.holding import broken
from almsrow.house import fallen, placed, row, why_not
from almsrow.idle import idle
from almsrow.kinchecker import lets_kin
from almsrow.meeting import met
from almsrow.reckoning import chest, owed, struck, week_paper
from almsrow.readings import read_book, read_deed, read_rules
from almsrow.register import Register
from almsrow.roundchecker import lets_round, lets_row
from almsrow.rounds import bounds_of, round_of
from almsrow.sharechecker import lets_shares
from almsrow.shares import shares
from almsrow.skipchecker import lets_skips
from almsrow.sums import sums
from almsrow.texts import book_lines, deed_lines, rules_word
from almsrow.ties import kin_paper, ties
from almsrow.turnrows import next_of_house, open_turn, turn_rows
from almsrow.turns import how_many, nth_turn, seat_of
from almsrow.waitchecker import lets_wait
from almsrow.waiting import followed, story_pages, wait_case
from almsrow.weekchecker import lets_week
from tests.common import can_meet, is_within, maker, some_rules
from tests.slow import NAMES, some_book, some_deed, walked_books, walked_weeks
from tests.test_waiting import waiters

# Of a deed, a book and a moment; of a book and a moment; of a deed, a book, a moment and a name; of weeks.
BEHIND = (placed, row, fallen, idle, holders, turn_rows, next_of_house, history)
OF_BOOKS = (folk_at, gone, heirs)
OF_NAMES = (type_at, away_days, lost_days, gowns, has)
OF_WEEKS = (dues, week_paper, owed, chest, struck, sums)


def asked(call, *things):
    """What is told, or what is refused and by what."""
    try:
        return call(*things)
    except AlmsError as error:
        return (type(error), vars(error))


def all_told(deed, book, moment):
    """All that is told of a book and a moment, or of the week whose reckoning is at it."""
    told = [call(deed, book, moment) for call in BEHIND]
    told += [call(book, moment) for call in OF_BOOKS]
    told += [asked(open_turn, deed, book, moment, place) for place in range(-1, len(deed[1]) + 1)]
    for name in NAMES:
        told += [asked(call, deed, book, moment, name) for call in OF_NAMES]
        told += [asked(call, book, moment, name) for call in (born_of, town_of)]
        told += [asked(why_not, deed, book, moment, place, name) for place in range(-1, len(deed[1]) + 1)]
    if moment[0] % 7 == 6 and moment[1] == 1000:
        told += [asked(call, deed, book, moment[0] // 7) for call in OF_WEEKS]
        told += [asked(counted, deed, book, moment[0] // 7, name) for name in NAMES]
    if moment[1] == 1000:
        untils = (moment[0] + 9,) * len(deed[1])
        told += [asked(wait_case, deed, book, moment[0], name, untils) for name in NAMES]
    return told


def some_rows(seed, many):
    """Rows (deed, book, moment), some of the moments those of reckonings."""
    rng = maker(seed)
    rows = [some[:3] for some in rng.sample(walked_books(), many)]
    return rows + [some[:2] + ((7 * some[2] + 6, 1000),) for some in rng.sample(walked_weeks(), many)]


class TestRules(unittest.TestCase):
    def test_17_met_or_cases(self):
        rng = maker(17)
        for _ in range(150):
            rules = some_rules(rng, 6, 3)
            word, thing = met(read_rules(rules_word(rules)))
            self.assertEqual(word, "met" if can_meet(rules) else "cases")
            if word == "met":
                self.assertIsNone(broken(rules, thing))
                self.assertIsNone(least_clash(rules))
                with self.assertRaises(AlmsError):
                    lets_cases(rules, ("age",))
            else:
                self.assertIs(lets_cases(rules, thing), True)
                clash = least_clash(rules)
                self.assertEqual(lets_clash(rules, clash), clash[0])

    def test_20_within_or_not(self):
        rng = maker(20)
        for _ in range(150):
            one, other = some_rules(rng, 4, 3), some_rules(rng, 4, 3)
            word, thing = within(one, other)
            self.assertEqual(word, "yes" if is_within(one, other) else "no")
            self.assertIs(lets_within(one, other, (word, thing)), word == "yes")
            if word == "no":
                self.assertIsNone(broken(one, thing))
                self.assertIsNotNone(broken(other, thing))


class TestTurns(unittest.TestCase):
    def test_28_bounds_for_ever(self):
        rng = maker(28)
        for _ in range(30):
            weights = tuple(rng.randint(1, 20) for _ in range(rng.randint(1, 6)))
            self.assertIs(lets_round(weights, round_of(weights)), True)
            turns = tuple(seat_of(weights, t) for t in range(3 * sum(weights)))
            self.assertEqual(lets_row(weights, turns), len(turns))
            for k in (0, 7, 10 ** 30, 10 ** 30 + 17):
                for seat in range(len(weights)):
                    self.assertIn(how_many(weights, seat, k), bounds_of(weights, seat, k))
                    self.assertEqual(how_many(weights, seat, nth_turn(weights, seat, k + 1)), k)

    def test_the_turns_of_a_house(self):
        # Whose a turn of the house is hangs on the weights alone.
        for deed, book, moment in some_rows(27, 30):
            weights = tuple(weight for _, weight in deed[2])
            for place in range(len(deed[1])):
                told = open_turn(deed, book, moment, place)
                if told is not None:
                    self.assertEqual(told[1], seat_of(weights, told[0]))
                    self.assertEqual(told[2], holders(deed, book, moment)[told[1]])


class TestBooks(unittest.TestCase):
    def test_42_however_its_pages_came(self):
        rng = maker(42)
        for deed, book, moment in some_rows(42, 12):
            due = all_told(deed, book, moment)
            pages = rng.sample(book, len(book))
            one, other = Register(deed), Register(deed)
            for page in pages:
                rng.choice((one, other)).tell(page)
            one.take_in(other)
            some = ()
            for page in pages + pages[:3]:
                some = with_page(some, page)
            for came in (in_order(pages), one.book() if len(book) <= 60 else book, some, read_book(book_lines(pages)),
                         joined(book[:9], book[5:]), without_page(with_page(book, (0, 0, "rent", 7)), (0, 0, "rent", 7))
                         if (0, 0, "rent", 7) not in book else book):
                self.assertEqual(came, book)
                self.assertEqual(all_told(read_deed(deed_lines(deed)), came, moment), due)

    def test_42_whatever_comes_later(self):
        rng = maker(421)
        for deed, book, moment in some_rows(43, 15):
            due = all_told(deed, book, moment)
            before = up_to(book, moment)
            self.assertEqual(all_told(deed, before, moment), due)
            # Where nothing came by then a later page is still ahead of the first week asked.
            later = [page for page in some_book(rng, some_deed(rng), 20)]
            later = [(page[0] + moment[0] + 1,) + page[1:] for page in later if page[0] + moment[0] < 99999]
            if before:
                self.assertEqual(all_told(deed, in_order(before + tuple(later)), moment), due)

    def test_what_was_told_may_be_handed_in_again(self):
        for deed, book, moment in some_rows(44, 20):
            forest = folk_at(book, moment)
            self.assertTrue(is_forest(forest))
            for name, _ in forest:
                for other, _ in forest:
                    told = kin_paper(forest, name, other)
                    self.assertEqual(lets_kin(forest, name, other, told), ties(forest, name, other))
                who = type_at(deed, book, moment, name)
                for place, (_, _, rules) in enumerate(deed[1]):
                    if why_not(deed, book, moment, place, name) not in ("gone", "housed"):
                        self.assertEqual(why_not(deed, book, moment, place, name), broken(rules, who))


class TestHouses(unittest.TestCase):
    def test_46_nobody_is_in_two_places(self):
        for deed, book, moment in some_rows(46, 60):
            names = [who[0] for who in placed(deed, book, moment) if who] + list(row(deed, book, moment))
            self.assertEqual(len(names), len(set(names)))
            if moment[1] == 1000:
                for place, who in enumerate(placed(deed, book, moment)):
                    if who is None and (deed[1][place][0] == "row" or place in fallen(deed, book, moment)):
                        for name in row(deed, book, moment):
                            self.assertIsNotNone(why_not(deed, book, moment, place, name))

    def test_51_why_each_place_went_so(self):
        skipped = 0
        for deed, book, moment in some_rows(51, 60):
            told = history(deed, book, moment)
            for number, (place, day, at, name, how) in enumerate(told):
                self.assertEqual(placed(deed, book, (day, at))[place], (name, day, at))
                if how[0] == "row":
                    self.assertIs(lets_skips(deed, book, moment, number, how[1]), True)
                    for other, clause in how[1]:
                        who = type_at(deed, book, (day, at), other)
                        self.assertEqual(broken(deed[1][place][2], who), clause)
                        skipped += 1
        self.assertGreater(skipped, 5)

    def test_53_what_is_told_earlier_is_the_beginning(self):
        for deed, book, moment in some_rows(53, 40):
            later = (min(moment[0] + 5, 99999), 1000)
            for call in (history, idle):
                told = call(deed, book, moment)
                self.assertEqual(call(deed, book, later)[:len(told)], told)
            turns = turn_rows(deed, book, moment)
            for old, new in zip(turns, turn_rows(deed, book, later)):
                self.assertEqual(old[:3], new[:3])
                self.assertTrue(old == new or old[3][0] == "open")
            self.assertEqual([some[0] for some in turns], list(range(next_of_house(deed, book, moment))))
            last = {some[0]: some for some in history(deed, book, moment)}
            for place, who in enumerate(placed(deed, book, moment)):
                if who:
                    self.assertEqual(last[place][1:4], who[1:] + who[:1])
            for place, _, _, name, how in history(deed, book, moment):
                if how[0] == "named":
                    self.assertEqual((turns[how[1]][1], turns[how[1]][3]), (place, ("named", name)))


class TestPence(unittest.TestCase):
    def test_62_and_64_weeks_and_sums(self):
        due = {}
        for deed, book, week, _ in walked_weeks()[:150]:
            paper = week_paper(deed, book, week)
            self.assertIs(lets_week(deed, book, week, paper), True)
            due[deed, book] = due.get((deed, book), 0) + sum(pence for _, pence in dues(deed, book, week))
            rents, paid, back, debts, out, left = sums(deed, book, week)
            self.assertEqual((rents, due[deed, book]), (paid + back + left, paid + back + debts + out))
            if paper[0] != paper[1]:
                some = [pence for _, pence in paper[0]]
                told = tuple(pence for _, pence in paper[1])
                self.assertIs(lets_shares(some, sum(told), told), True)
                self.assertEqual((paper[2], chest(deed, book, week), shares(some, sum(told))), ((), 0, told))

    def test_64_what_each_one_has(self):
        # All that was paid and given back is what the names were paid, and what is owed is owed to them.
        for deed, book, week, facts in walked_weeks()[::3]:
            some = [has(deed, book, (7 * week + 6, 1000), name) for name in facts["came"]]
            _, paid, back, debts, _, _ = sums(deed, book, week)
            self.assertEqual((sum(one[2] for one in some), sum(one[3] for one in some)), (paid + back, debts))


class TestWaits(unittest.TestCase):
    def test_73_and_76_the_longest_wait(self):
        for deed, book, day, name, untils in waiters()[:80]:
            places, case = wait_case(deed, book, day, name, untils)
            paper = longest(case)
            self.assertEqual(lets_wait(case, paper), paper[0])
            more = followed(book, day, story_pages(deed, book, day, places, paper[1]))
            self.assertTrue(is_book(more))
            told = placed(deed, more, (day + 1, 999))
            for r, who in paper[1]:
                self.assertEqual(told[places[r]][0], who or name)


class TestRegisters(unittest.TestCase):
    def test_80_two_that_took_in_one_another(self):
        rng = maker(80)
        for deed, book, moment in some_rows(80, 10):
            one, other = Register(deed), Register(deed)
            for page in book[:60]:
                for held in rng.choice(((one,), (other,), (one, other))):
                    held.tell(page)
            one.take_in(other)
            other.take_in(one)
            self.assertEqual((one.book(), other.book()), (book[:60], book[:60]))
            self.assertEqual(all_told(one.deed(), one.book(), moment), all_told(deed, other.book(), moment))
            one.strike(book[0])
            self.assertEqual(other.book(), book[:60])


class TestNothingIsChanged(unittest.TestCase):
    def test_what_is_handed_in_and_what_is_told(self):
        rows = some_rows(2, 10)
        before = copy.deepcopy(rows)
        first = [all_told(*some) for some in rows]
        kept = copy.deepcopy(first)
        for some in first:
            for thing in some:
                if isinstance(thing, list):
                    thing.append("another")
        self.assertEqual([all_told(*some) for some in rows[::-1]], kept[::-1])
        self.assertEqual(rows, before)
