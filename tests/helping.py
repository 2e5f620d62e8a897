"""What the tests share: the names of all arguments, and calls made in each way that the document allows."""

import importlib
import unittest

INTERFACE = {
    "schemas": {
        "is_schema": ("thing",),
        "is_question": ("schema", "thing"),
        "is_deal": ("schema", "thing"),
        "columns_of": ("schema",),
        "sheet_of": ("schema", "column"),
        "with_rule": ("schema", "rule"),
        "without_rule": ("schema", "rule"),
        "with_key": ("schema", "number", "key"),
        "without_key": ("schema", "number", "key"),
        "with_reference": ("schema", "number", "reference"),
        "without_reference": ("schema", "number", "other"),
        "with_sheet": ("schema", "sheet"),
        "without_sheet": ("schema", "number"),
        "renamed": ("schema", "pairs"),
        "closed": ("schema", "number", "some"),
        "referred": ("schema", "number"),
        "referring": ("schema", "number"),
    },
    "tables": {
        "is_row": ("schema", "number", "thing"),
        "is_tables": ("schema", "thing"),
        "keeps": ("schema", "tables"),
        "broken_rules": ("schema", "tables"),
        "broken_keys": ("schema", "tables"),
        "broken_references": ("schema", "tables"),
        "rows_with": ("schema", "tables", "number", "columns", "names"),
        "led_to": ("schema", "tables", "number", "row"),
        "leading_to": ("schema", "tables", "number", "row"),
        "is_deed": ("schema", "thing"),
        "after": ("schema", "tables", "deed"),
        "after_all": ("schema", "tables", "deeds"),
        "keeps_after": ("schema", "tables", "deed"),
        "deeds_to": ("schema", "one", "other"),
        "meetings": ("schema", "tables", "question"),
        "shown": ("schema", "tables", "question", "meeting"),
        "answer": ("schema", "tables", "question", "word"),
    },
}

MODULE_OF = {name: module for module, names in INTERFACE.items() for name in names}

ORDERS = (("cust", "item", "oid"), (), (("oid",),), ((1, ("cust",), ("name",)), (2, ("item",), ("good",))))
BUYERS = (("city", "land", "name"), ((("city",), "land"),), (("name",),), ())
GOODS = (("good", "kind"), (), (("good",),), ())
SHOP = (ORDERS, BUYERS, GOODS)

# Four SHEETS in a chain with a short cut; a KEY of two, a KEY (), RULES from () and from themselves.
CHAIN = (
    (("a", "b"), ((("a",), "a"), (("a",), "b")), (), ((1, ("b", "a"), ("d", "e")), (3, (), ()))),
    (("c", "d", "e"), (((), "c"),), (("c",), ("d", "e")), ((2, ("c",), ("f",)),)),
    (("f", "g"), (), (("f",), ("g",)), ((3, ("g",), ("h",)),)),
    (("h",), (), ((), ("h",)), ()),
)


def function(name):
    """Return the function of the interface with this name."""
    return getattr(importlib.import_module("rowsathome." + MODULE_OF[name]), name)


def error(name):
    """Return the error class with this name."""
    return getattr(importlib.import_module("rowsathome.errors"), name)


def same(value):
    return value


def listed(value):
    """Return value with a list in the place of each tuple."""
    return [listed(part) for part in value] if isinstance(value, (list, tuple)) else value


def outside_listed(value):
    """Return value with lists at every other depth, the outermost one among them."""
    return [inside_listed(part) for part in value] if isinstance(value, (list, tuple)) else value


def inside_listed(value):
    """Return value with lists at every other depth, tuples outermost."""
    return tuple(outside_listed(part) for part in value) if isinstance(value, (list, tuple)) else value


class Case(unittest.TestCase):
    """A test whose calls are made in all ways: by position, by names, with lists for tuples."""

    maxDiff = None

    def ways(self, name, arguments):
        """Yield, for each way, what makes the call; afterwards look whether the arguments are as they were."""
        names = INTERFACE[MODULE_OF[name]][name]
        self.assertEqual(len(names), len(arguments))
        call = function(name)
        for change in (same, listed, outside_listed, inside_listed):
            given = [part if key == "thing" else change(part) for key, part in zip(names, arguments)]
            before = repr(given)
            yield lambda: call(*given)
            self.assertEqual(before, repr(given), f"{name} changed its arguments")
            yield lambda: call(**dict(reversed(list(zip(names, given)))))
            self.assertEqual(before, repr(given), f"{name} changed its arguments")

    def gives(self, expected, name, *arguments):
        """Look whether the function returns just this: repr tells tuples from lists and True from 1."""
        for call in self.ways(name, arguments):
            self.assertEqual(repr(expected), repr(call()), f"{name}{arguments!r}")

    def refuses(self, wanted, kept, name, *arguments):
        """Look whether the function raises just this error, with these values in its attributes."""
        for call in self.ways(name, arguments):
            with self.assertRaises((LookupError, ValueError), msg=f"{name}{arguments!r}") as caught:
                call()
            self.assertIs(error(wanted), type(caught.exception), f"{name}{arguments!r}: {caught.exception!r}")
            for key, value in kept.items():
                self.assertEqual(repr(value), repr(getattr(caught.exception, key)))

    def is_such(self, name, *ahead, things):
        for thing in things:
            self.gives(True, name, *ahead, thing)

    def is_not_such(self, name, *ahead, things):
        for thing in (*things, *STRANGE):
            self.gives(False, name, *ahead, thing)


def nested(depth):
    """Return tuples in tuples, as deep as thing may be."""
    return () if depth == 1 else (nested(depth - 1),)


STRANGE = (
    None, True, False, 0, 1, -1, 10 ** 40, "", "a", "put", [], [[]], [()], ([],), (None,), (True,), (0,), ("a",),
    nested(12), tuple(range(500)), ("a",) * 500, ((),) * 500, ((), (), ()) * 2, ("a", "b", "c", "d"),
    [None, True, ("a", [1, (2, "z")])],
)
