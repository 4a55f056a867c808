"""The eight error classes ([19], [2])."""

import inspect
import unittest

from namesalone import errors
from tests.support import as_lists

WITHIN = {
    "NoName": (LookupError, {"name": "box"}),
    "NoNumber": (LookupError, {"number": -10 ** 40}),
    "NothingDone": (LookupError, {}),
    "Impossible": (ValueError, {"move": ("a", None)}),
    "NoPlan": (ValueError, {}),
    "NoRule": (ValueError, {}),
    "BadText": (ValueError, {}),
    "BadLine": (ValueError, {"number": 7}),
}


class Errors(unittest.TestCase):
    def test_just_these_classes_each_under_its_own_base_alone(self):
        found = {name: own for name, own in vars(errors).items() if inspect.isclass(own)}
        self.assertEqual(sorted(found), sorted(WITHIN))
        for name, own in found.items():
            with self.subTest(name):
                self.assertEqual(own.__bases__, (WITHIN[name][0],))
                self.assertEqual(own.__module__, "namesalone.errors")

    def test_values_by_position_and_by_name_are_kept(self):
        for name, (base, values) in WITHIN.items():
            with self.subTest(name):
                for made in (getattr(errors, name)(*values.values()), getattr(errors, name)(**values)):
                    self.assertIsInstance(made, base)
                    self.assertEqual(vars(made), values)

    def test_no_other_number_of_values(self):
        for name, (_, values) in WITHIN.items():
            with self.subTest(name), self.assertRaises(TypeError):
                getattr(errors, name)(*values.values(), "more")
            if values:
                with self.subTest(name), self.assertRaises(TypeError):
                    getattr(errors, name)()

    def test_raised_ones_are_caught_as_their_base(self):
        for name, (base, values) in WITHIN.items():
            with self.subTest(name), self.assertRaises(base):
                raise getattr(errors, name)(**values)

    def test_a_list_is_kept_as_a_tuple(self):
        for move in (("a", "b"), ("a", None), ("swap", "a", "b")):
            made = errors.Impossible(as_lists(move))
            self.assertEqual((made.move, made.args), (move, (move,)))


if __name__ == "__main__":
    unittest.main()
