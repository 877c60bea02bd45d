import importlib
import inspect
import unittest

INTERFACE = {
    "kinds": ("is_number(thing)", "is_word(thing)", "is_literal(thing)", "is_rules(thing)", "is_type(thing)"),
    "holding": ("literal_holds(literal, who)", "clause_holds(clause, who)", "broken(rules, who)"),
    "choosing": ("together(literals)", "type_by(literals)", "contrary(literal)"),
    "casechecker": ("lets_cases(rules, thing)",),
    "meeting": ("met(rules)",),
    "clashing": ("least_clash(rules)",),
    "clashchecker": ("lets_clash(rules, thing)",),
    "comparing": ("within(one, other)",),
    "comparechecker": ("lets_within(one, other, thing)",),
    "weights": ("is_weights(thing)", "first_of(weights, seat, j)", "last_of(weights, seat, j)"),
    "rounds": ("bounds_of(weights, seat, k)", "round_of(weights)"),
    "roundchecker": ("lets_round(weights, thing)", "lets_row(weights, thing)"),
    "turns": ("seat_of(weights, t)", "how_many(weights, seat, k)", "nth_turn(weights, seat, j)",
              "next_turn(weights, seat, k)"),
    "forests": ("is_forest(thing)", "elders(forest, name)", "kin_of(forest, name, s)"),
    "ties": ("ties(forest, one, other)", "kin_paper(forest, one, other)"),
    "kinchecker": ("lets_kin(forest, one, other, thing)",),
    "deeds": ("is_deed(thing)",),
    "pages": ("is_moment(thing)", "is_page(thing)", "page_moment(page)"),
    "books": ("is_book(thing)", "in_order(pages)", "with_page(book, page)", "without_page(book, page)",
              "joined(one, other)", "up_to(book, moment)"),
    "folk": ("folk_at(book, moment)", "born_of(book, moment, name)", "town_of(book, moment, name)",
             "type_at(deed, book, moment, name)", "gone(book, moment)"),
    "house": ("placed(deed, book, moment)", "row(deed, book, moment)", "fallen(deed, book, moment)",
              "why_not(deed, book, moment, place, name)"),
    "idle": ("idle(deed, book, moment)",),
    "holders": ("holders(deed, book, moment)", "heirs(book, moment)"),
    "turnrows": ("turn_rows(deed, book, moment)", "next_of_house(deed, book, moment)",
                 "open_turn(deed, book, moment, place)"),
    "history": ("history(deed, book, moment)",),
    "skipchecker": ("lets_skips(deed, book, moment, number, thing)",),
    "away": ("away_days(deed, book, moment, name)", "lost_days(deed, book, moment, name)"),
    "counting": ("counted(deed, book, week, name)", "dues(deed, book, week)"),
    "shares": ("shares(some, pence)",),
    "sharechecker": ("lets_shares(some, pence, thing)",),
    "reckoning": ("week_paper(deed, book, week)", "owed(deed, book, week)", "chest(deed, book, week)",
                  "struck(deed, book, week)"),
    "weekchecker": ("lets_week(deed, book, week, thing)",),
    "sums": ("sums(deed, book, week)",),
    "gowns": ("gowns(deed, book, moment, name)",),
    "having": ("has(deed, book, moment, name)",),
    "cases": ("is_case(thing)", "saturated(case, day)", "longest(case)"),
    "waitchecker": ("lets_wait(case, thing)",),
    "waiting": ("wait_case(deed, book, day, name, untils)", "story_pages(deed, book, day, places, story)",
                "followed(book, day, pages)"),
    "texts": ("page_line(page)", "rules_word(rules)", "book_lines(book)", "deed_lines(deed)"),
    "readings": ("read_page(text)", "read_rules(text)", "read_book(lines)", "read_deed(lines)"),
}

CLASSES = {
    "register": ("Register(deed)", "tell(self, thing)", "strike(self, thing)", "take_in(self, other)", "back(self)",
                 "deed(self)", "book(self)", "deeds(self)", "elder(self, k)"),
    "desk": ("Desk()", "say(self, row)"),
}


class TestInterface(unittest.TestCase):
    def test_each_function_stands_in_its_file_with_its_names(self):
        for name, rows in INTERFACE.items():
            module = importlib.import_module("almsrow." + name)
            for row in rows:
                told = getattr(module, row.split("(")[0])
                self.assertEqual(told.__name__ + str(inspect.signature(told)), row)
                self.assertEqual(told.__module__, module.__name__)

    def test_each_class_stands_in_its_file_with_its_methods(self):
        for name, (told, *methods) in CLASSES.items():
            made = getattr(importlib.import_module("almsrow." + name), told.split("(")[0])
            self.assertEqual(made.__name__ + str(inspect.signature(made)), told)
            self.assertEqual(made.__module__, "almsrow." + name)
            for method in methods:
                own = vars(made)[method.split("(")[0]]
                self.assertEqual(own.__name__ + str(inspect.signature(own)), method)
