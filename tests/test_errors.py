"""The error classes, and where all names of the interface stand. [2] [20]"""

import importlib
import inspect
import unittest

from helping import BOARD, INTERFACE, error

BASES = {
    "NoColumn": (LookupError, "name"),
    "NoHouse": (LookupError, "number"),
    "NoSheet": (LookupError, "number"),
    "NothingDone": (LookupError, None),
    "NoWord": (LookupError, "word"),
    "BadLine": (ValueError, "number"),
    "BadText": (ValueError, "piece"),
    "CanNot": (ValueError, None),
    "Known": (ValueError, "name"),
    "Unfit": (ValueError, None),
}
VALUES = {"name": "ann", "word": "most", "number": -7, "piece": 10 ** 30}


def made(name):
    key = BASES[name][1]
    return error(name)() if key is None else error(name)(VALUES[key])


class Errors(unittest.TestCase):
    def test_each_is_a_direct_subclass_of_its_base(self):
        for name, (base, _) in BASES.items():
            self.assertIn(base, error(name).__bases__, name)
            self.assertEqual(name, error(name).__name__)

    def test_none_is_a_subclass_of_another_one(self):
        for name in BASES:
            for other in BASES:
                self.assertEqual(name == other, issubclass(error(name), error(other)), (name, other))

    def test_the_two_bases_stay_apart(self):
        for name, (base, _) in BASES.items():
            other = ValueError if base is LookupError else LookupError
            self.assertFalse(issubclass(error(name), other), name)

    def test_each_keeps_the_value_of_its_brackets(self):
        for name, (_, key) in BASES.items():
            if key is not None:
                by_name = error(name)(**{key: VALUES[key]})
                self.assertEqual(repr(VALUES[key]), repr(getattr(made(name), key)))
                self.assertEqual(repr(VALUES[key]), repr(getattr(by_name, key)))

    def test_they_keep_whatever_value_comes(self):
        for name, (_, key) in BASES.items():
            for value in ("", "a b", 0, -1, 3):
                if key is not None:
                    self.assertEqual(repr(value), repr(getattr(error(name)(value), key)))

    def test_two_errors_keep_their_own_values(self):
        one, other = error("NoSheet")(1), error("NoSheet")(2)
        self.assertEqual((1, 2), (one.number, other.number))

    def test_each_can_be_raised_and_caught(self):
        for name, (base, _) in BASES.items():
            with self.assertRaises(base) as caught:
                raise made(name)
            self.assertIs(error(name), type(caught.exception))


class Interface(unittest.TestCase):
    def test_errors_are_defined_in_their_file(self):
        for name in BASES:
            self.assertEqual("rowsathome.errors", error(name).__module__)
            self.assertTrue(inspect.isclass(error(name)))

    def test_functions_are_defined_in_their_files(self):
        for module, names in INTERFACE.items():
            for name in names:
                told = getattr(importlib.import_module("rowsathome." + module), name)
                self.assertTrue(inspect.isfunction(told), name)
                self.assertEqual("rowsathome." + module, told.__module__, name)

    def test_arguments_have_their_names_in_their_order(self):
        for module, names in INTERFACE.items():
            for name, arguments in names.items():
                told = getattr(importlib.import_module("rowsathome." + module), name)
                self.assertEqual(arguments, tuple(inspect.signature(told).parameters), name)

    def test_the_board_and_its_methods(self):
        board = importlib.import_module("rowsathome.board").Board
        self.assertTrue(inspect.isclass(board))
        self.assertEqual("rowsathome.board", board.__module__)
        self.assertEqual(("schema", "deal", "houses"), tuple(inspect.signature(board).parameters))
        for name, arguments in BOARD.items():
            self.assertIn(name, vars(board), name)
            self.assertEqual(("self", *arguments), tuple(inspect.signature(vars(board)[name]).parameters), name)
        self.assertTrue({"__init__", "__len__", "__eq__"} <= set(vars(board)))


if __name__ == "__main__":
    unittest.main()
