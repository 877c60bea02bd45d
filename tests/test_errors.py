import unittest

from almsrow import errors

FIELDS = {
    "NoPaper": ("word", "at"), "NoName": ("name",), "NoPlace": ("place",), "NoSeat": ("seat",),
    "NoTurn": ("turn",), "NoWeek": ("week",), "NoPage": ("word",), "NoBack": (),
    "NoText": ("row", "word"), "NoRow": ("row",),
}


class Shy:
    """A thing that breaks when it is looked at."""

    def _look(self, *_):
        raise AssertionError("looked at")

    __eq__ = __bool__ = __len__ = __repr__ = __str__ = __iter__ = __hash__ = _look


class TestErrors(unittest.TestCase):
    def test_each_is_straight_under_the_one_base(self):
        self.assertEqual(errors.AlmsError.__bases__, (ValueError,))
        for name in FIELDS:
            self.assertEqual(getattr(errors, name).__bases__, (errors.AlmsError,), name)

    def test_there_are_no_others(self):
        known = [name for name, thing in vars(errors).items() if isinstance(thing, type)]
        self.assertEqual(sorted(known), sorted([*FIELDS, "AlmsError"]))

    def test_fields_are_kept_in_their_order_the_very_ones(self):
        for name, fields in FIELDS.items():
            things = [Shy() for _ in fields]
            error = getattr(errors, name)(*things)
            for field, thing in zip(fields, things):
                self.assertIs(getattr(error, field), thing, name)
            self.assertEqual(sorted(vars(error)), sorted(fields), name)

    def test_fields_go_by_their_names_too(self):
        for name, fields in FIELDS.items():
            error = getattr(errors, name)(**{field: [field] for field in fields})
            for field in fields:
                self.assertEqual(getattr(error, field), [field])

    def test_lists_are_kept_themselves(self):
        at = [1, [2]]
        error = errors.NoPaper("shape", at)
        at[1].append(3)
        self.assertIs(error.at, at)
        self.assertEqual(error.at, [1, [2, 3]])

    def test_just_their_fields(self):
        for name, fields in FIELDS.items():
            with self.assertRaises(TypeError):
                getattr(errors, name)(*range(len(fields) + 1))
            if fields:
                with self.assertRaises(TypeError):
                    getattr(errors, name)(*range(len(fields) - 1))

    def test_are_caught_as_alms_errors_and_not_as_one_another(self):
        for name, fields in FIELDS.items():
            for other in FIELDS:
                with self.assertRaises(errors.AlmsError) as caught:
                    raise getattr(errors, name)(*fields)
                self.assertEqual(isinstance(caught.exception, getattr(errors, other)), name == other)
