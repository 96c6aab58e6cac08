"""The refusals: the interface's paragraph weldmill/errors.py."""

import unittest

from weldmill import errors

FIELDS = {
    "NoText": ("line",),
    "Doubled": ("name", "one", "other"),
    "Missing": ("name", "piece"),
    "Skewed": ("name", "piece"),
    "TooGreat": ("most",),
    "Twin": ("name",),
    "NoPiece": ("name",),
    "TooMany": ("most",),
    "Broken": ("number",),
}
VALUES = {"line": 4, "name": "main", "one": 1, "other": 5, "piece": -1, "most": 30, "number": 2}


class Refusals(unittest.TestCase):
    def test_weld_error_is_a_value_error_and_no_more(self):
        self.assertEqual(errors.WeldError.__bases__, (ValueError,))
        self.assertEqual(errors.WeldError.__module__, "weldmill.errors")

    def test_each_stands_straight_under_weld_error(self):
        for word in FIELDS:
            with self.subTest(word):
                refusal = getattr(errors, word)
                self.assertEqual(refusal.__bases__, (errors.WeldError,))
                self.assertEqual(refusal.__module__, "weldmill.errors")
                self.assertEqual(refusal.__name__, word)

    def test_fields_by_place(self):
        for word, fields in FIELDS.items():
            with self.subTest(word):
                error = getattr(errors, word)(*[VALUES[field] for field in fields])
                self.assertEqual([getattr(error, field) for field in fields], [VALUES[field] for field in fields])

    def test_fields_by_name_in_any_order(self):
        for word, fields in FIELDS.items():
            with self.subTest(word):
                error = getattr(errors, word)(**{field: VALUES[field] for field in reversed(fields)})
                self.assertEqual([getattr(error, field) for field in fields], [VALUES[field] for field in fields])

    def test_no_field_may_be_left_out_or_added(self):
        for word, fields in FIELDS.items():
            with self.subTest(word):
                values = [VALUES[field] for field in fields]
                with self.assertRaises(TypeError):
                    getattr(errors, word)(*values[1:])
                with self.assertRaises(TypeError):
                    getattr(errors, word)(*values, 0)

    def test_each_is_caught_as_itself_as_weld_error_and_as_value_error(self):
        for word, fields in FIELDS.items():
            refusal = getattr(errors, word)
            for caught in (refusal, errors.WeldError, ValueError):
                with self.subTest(word=word, caught=caught):
                    with self.assertRaises(caught) as held:
                        raise refusal(*[VALUES[field] for field in fields])
                    self.assertIs(held.exception.__class__, refusal)

    def test_two_of_a_class_keep_their_own_fields(self):
        first = errors.Doubled("a", 0, 1)
        second = errors.Doubled("b", 2, 3)
        self.assertEqual((first.name, first.one, first.other), ("a", 0, 1))
        self.assertEqual((second.name, second.one, second.other), ("b", 2, 3))


if __name__ == "__main__":
    unittest.main()
