import importlib
import inspect
import unittest

INTERFACE = {
    "kinds": ("is_number(thing)", "is_word(thing)", "is_literal(thing)", "is_rules(thing)", "is_type(thing)"),
    "holding": ("literal_holds(literal, who)", "clause_holds(clause, who)", "broken(rules, who)"),
    "choosing": ("together(literals)", "type_by(literals)", "contrary(literal)"),
    "casechecker": ("lets_cases(rules, thing)",),
    "meeting": ("met(rules)",),
    "clashing": ("least_clash(rules)",),
    "clashchecker": ("lets_clash(rules, thing)",),
    "comparing": ("within(one, other)",),
    "comparechecker": ("lets_within(one, other, thing)",),
    "weights": ("is_weights(thing)", "first_of(weights, seat, j)", "last_of(weights, seat, j)"),
    "rounds": ("bounds_of(weights, seat, k)", "round_of(weights)"),
    "roundchecker": ("lets_round(weights, thing)", "lets_row(weights, thing)"),
    "turns": ("seat_of(weights, t)", "how_many(weights, seat, k)", "nth_turn(weights, seat, j)",
              "next_turn(weights, seat, k)"),
}


class TestInterface(unittest.TestCase):
    def test_each_function_stands_in_its_file_with_its_names(self):
        for name, rows in INTERFACE.items():
            module = importlib.import_module("almsrow." + name)
            for row in rows:
                told = getattr(module, row.split("(")[0])
                self.assertEqual(told.__name__ + str(inspect.signature(told)), row)
                self.assertEqual(told.__module__, module.__name__)
