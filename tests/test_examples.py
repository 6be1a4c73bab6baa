"""The examples of the document, as they stand in examples.txt."""

import importlib
import os
import unittest

from tests.support import INTERFACE

EXAMPLES = os.path.join(os.path.dirname(__file__), "examples.txt")


def examples():
    """The list of the triples (number of the line, what is asked, what the document tells)."""
    found = []
    with open(EXAMPLES) as text:
        lines = [line.rstrip("\n") for line in text]
    for number, line in enumerate(lines):
        if line.startswith(">>> "):
            told = lines[number + 1] if number + 1 < len(lines) else ""
            found.append((number + 1, line[4:], None if told[:4] in (">>> ", "# se", "") else told))
    return found


def names_of_the_program():
    names = {}
    for file in INTERFACE:
        module = importlib.import_module("screwshop." + file)
        names.update({name: getattr(module, name) for name in INTERFACE[file]})
    return names


class Examples(unittest.TestCase):
    def test_every_example(self):
        names, asked = names_of_the_program(), 0
        for number, line, told in examples():
            with self.subTest(line=number, asked=line):
                asked += 1
                if told is None:
                    exec(line, names)
                elif told.startswith("raises "):
                    self.raises(line, told[7:], names)
                else:
                    self.assertEqual(repr(eval(line, names)), repr(eval(told)))
        self.assertEqual(asked, 206)

    def raises(self, line, told, names):
        error = told.partition("(")[0]
        with self.assertRaises(names[error]) as caught:
            eval(line, names)
        self.assertIs(caught.exception.__class__, names[error])
        values = eval("dict(" + told.partition("(")[2])
        self.assertEqual(vars(caught.exception), values)


if __name__ == "__main__":
    unittest.main()
