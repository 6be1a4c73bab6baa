"""[25]: the names, where they are defined, and what their parameters are called."""

import importlib
import inspect
import unittest

from tests.support import BOARD, ERRORS, INTERFACE


class Interface(unittest.TestCase):
    def test_each_name_is_defined_in_its_file(self):
        for file in INTERFACE:
            module = importlib.import_module("screwshop." + file)
            for name in INTERFACE[file]:
                with self.subTest(file=file, name=name):
                    self.assertEqual(getattr(module, name).__module__, "screwshop." + file)
                    self.assertEqual(getattr(module, name).__name__, name)

    def test_parameters_are_called_as_shown(self):
        for file in INTERFACE:
            module = importlib.import_module("screwshop." + file)
            for name in INTERFACE[file]:
                if name in ERRORS and not ERRORS[name][1]:
                    continue
                parameters = inspect.signature(getattr(module, name)).parameters
                with self.subTest(file=file, name=name):
                    self.assertEqual(list(parameters), INTERFACE[file][name])
                    kinds = {parameters[own].kind for own in parameters}
                    self.assertEqual(kinds, {inspect.Parameter.POSITIONAL_OR_KEYWORD})


    def test_methods_of_a_board(self):
        board = importlib.import_module("screwshop.board").Board
        for name in BOARD:
            with self.subTest(name=name):
                self.assertIn(name, vars(board))
                parameters = inspect.signature(vars(board)[name]).parameters
                self.assertEqual(list(parameters)[1:], BOARD[name])
                kinds = {parameters[own].kind for own in parameters}
                self.assertEqual(kinds, {inspect.Parameter.POSITIONAL_OR_KEYWORD})
        shown = [name for name in vars(board) if not name.startswith("_")]
        self.assertEqual(sorted(shown), sorted(BOARD))


if __name__ == "__main__":
    unittest.main()
