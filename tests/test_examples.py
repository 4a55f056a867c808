"""Every example of DOC.md that is in examples.txt."""

import importlib
import os
import re
import unittest

from namesalone import errors

FILES = ("errors", "jobs", "moves", "fewest", "alike", "rules", "counts", "fences", "kinds", "looks", "swaps", "sizes",
         "lists", "board", "texts", "desk")


def names_of_package():
    found = {}
    for file in FILES:
        module = importlib.import_module("namesalone." + file)
        found.update({name: own for name, own in vars(module).items() if not name.startswith("_")})
    return found


def read_examples():
    """The pairs (what is put in, what must come out); None comes out of an assignment."""
    path = os.path.join(os.path.dirname(__file__), "examples.txt")
    with open(path, encoding="utf-8") as file:
        lines = file.read().splitlines()
    rows = []
    for line in lines[1:]:
        if line.startswith(">>> "):
            rows.append([line[4:], None])
        elif line and not re.fullmatch(r"\[\d+\]", line):
            rows[-1][1] = line
    return rows


class Examples(unittest.TestCase):
    def test_each_as_it_stands_in_the_document(self):
        space = names_of_package()
        examples = read_examples()
        self.assertGreater(len(examples), 110)
        for put, out in examples:
            with self.subTest(put):
                self.check(space, put, out)

    def check(self, space, put, out):
        if out is None:
            exec(put, space)
        elif out.startswith("raises "):
            name, inside = re.fullmatch(r"raises (\w+)\((.*)\)", out).groups()
            with self.assertRaises(ValueError if name in vars(errors) and issubclass(
                    getattr(errors, name), ValueError) else LookupError) as held:
                eval(put, space)
            self.assertIs(type(held.exception), getattr(errors, name))
            self.assertEqual(repr(vars(held.exception)), repr(eval("dict(%s)" % inside)))
        else:
            self.assertEqual(repr(eval(put, space)), out)


if __name__ == "__main__":
    unittest.main()
