"""What stands where in a SCHEMA, and SCHEMAS with something more or less. [4]"""

import unittest

from helping import BUYERS, CHAIN, GOODS, ORDERS, SHOP, Case, function

OTHER_NUMBERS = (3, 4, -1, -2, -3, 10 ** 30, -10 ** 30)


def changed(schema, number, **parts):
    """Return the SCHEMA with other parts of the SHEET with this number."""
    names = ("columns", "rules", "keys", "references")
    sheet = tuple(parts.get(name, part) for name, part in zip(names, schema[number]))
    return (*schema[:number], sheet, *schema[number + 1:])


class Places(Case):
    def test_columns_of(self):
        self.gives(("a", "b", "c", "d", "e", "f", "g", "h"), "columns_of", CHAIN)
        self.gives(("a",), "columns_of", ((("a",), (), (), ()),))
        self.gives(("a", "b", "c", "d"), "columns_of", ((("b", "d"), (), (), ()), (("a", "c"), (), (), ())))

    def test_sheet_of(self):
        for column, number in (("a", 0), ("b", 0), ("c", 1), ("e", 1), ("f", 2), ("g", 2), ("h", 3)):
            self.gives(number, "sheet_of", CHAIN, column)

    def test_sheet_of_no_column(self):
        for name in ("", "x", "ab", "A", "a b", "nobody", "abcdefghij"):
            self.refuses("NoColumn", {"name": name}, "sheet_of", CHAIN, name)

    def test_referred(self):
        for number, others in enumerate(((1, 2, 3), (2, 3), (3,), ())):
            self.gives(others, "referred", CHAIN, number)
        for number, others in enumerate(((1, 2), (), ())):
            self.gives(others, "referred", SHOP, number)

    def test_referring(self):
        for number, others in enumerate(((), (0,), (0, 1), (0, 1, 2))):
            self.gives(others, "referring", CHAIN, number)
        for number, others in enumerate(((), (0,), (0,))):
            self.gives(others, "referring", SHOP, number)

    def test_referred_by_steps_alone(self):
        keyed = (("c",), (), ((),), ((3, (), ()),))
        schema = ((("a",), (), (), ((2, (), ()),)), (("b",), (), (), ()), keyed, (("d",), (), ((),), ()))
        for number, others in enumerate(((2, 3), (), (3,), ())):
            self.gives(others, "referred", schema, number)
        for number, others in enumerate(((), (), (0,), (0, 2))):
            self.gives(others, "referring", schema, number)

    def test_no_such_sheet(self):
        for number in OTHER_NUMBERS:
            self.refuses("NoSheet", {"number": number}, "referred", SHOP, number)
            self.refuses("NoSheet", {"number": number}, "referring", SHOP, number)


class Rules(Case):
    def test_with_rule(self):
        rules = ((("city",), "land"), (("city", "land"), "name"))
        self.gives(changed(SHOP, 1, rules=rules), "with_rule", SHOP, (("city", "land"), "name"))
        self.gives(changed(SHOP, 1, rules=(((), "name"), rules[0])), "with_rule", SHOP, ((), "name"))
        ahead = ((("city",), "city"), (("city",), "land"))
        self.gives(changed(SHOP, 1, rules=ahead), "with_rule", SHOP, (("city",), "city"))
        self.gives(changed(SHOP, 2, rules=((("kind",), "good"),)), "with_rule", SHOP, (("kind",), "good"))

    def test_with_rule_that_is_there(self):
        self.gives(SHOP, "with_rule", SHOP, (("city",), "land"))
        for rule in CHAIN[0][1]:
            self.gives(CHAIN, "with_rule", CHAIN, rule)

    def test_without_rule(self):
        self.gives(changed(CHAIN, 0, rules=CHAIN[0][1][1:]), "without_rule", CHAIN, (("a",), "a"))
        self.gives(changed(CHAIN, 0, rules=CHAIN[0][1][:1]), "without_rule", CHAIN, (("a",), "b"))
        self.gives(changed(CHAIN, 1, rules=()), "without_rule", CHAIN, ((), "c"))

    def test_no_such_rule(self):
        for rule in ((("land",), "city"), ((), "land"), (("city", "name"), "land"), (("city",), "city"), ((), "oid")):
            self.refuses("Unfit", {}, "without_rule", SHOP, rule)

    def test_no_column(self):
        for name in ("with_rule", "without_rule"):
            self.refuses("NoColumn", {"name": "x"}, name, SHOP, (("x",), "y"))
            self.refuses("NoColumn", {"name": "y"}, name, SHOP, (("city",), "y"))
            self.refuses("NoColumn", {"name": "q"}, name, SHOP, (("city", "q", "x"), "y"))
            self.refuses("NoColumn", {"name": ""}, name, SHOP, ((), ""))
            # Of two SHEETS, too; yet NoColumn is told first.
            self.refuses("NoColumn", {"name": "x"}, name, SHOP, (("city", "good", "x"), "land"))
            self.refuses("NoColumn", {"name": "x"}, name, SHOP, (("city", "good"), "x"))

    def test_of_two_sheets(self):
        for name in ("with_rule", "without_rule"):
            self.refuses("Unfit", {}, name, SHOP, (("city",), "good"))
            self.refuses("Unfit", {}, name, SHOP, (("city", "good"), "land"))
            self.refuses("Unfit", {}, name, SHOP, (("city", "good"), "kind"))


class Keys(Case):
    def test_with_key(self):
        self.gives(changed(SHOP, 1, keys=(("city", "land"), ("name",))), "with_key", SHOP, 1, ("city", "land"))
        self.gives(changed(SHOP, 0, keys=((), ("oid",))), "with_key", SHOP, 0, ())
        self.gives(changed(SHOP, 2, keys=(("good",), ("good", "kind"))), "with_key", SHOP, 2, ("good", "kind"))
        self.gives(changed(CHAIN, 0, keys=(("a",),)), "with_key", CHAIN, 0, ("a",))

    def test_with_key_that_is_there(self):
        self.gives(SHOP, "with_key", SHOP, 1, ("name",))
        self.gives(CHAIN, "with_key", CHAIN, 3, ())

    def test_without_key(self):
        self.gives(changed(SHOP, 0, keys=()), "without_key", SHOP, 0, ("oid",))
        self.gives(changed(CHAIN, 1, keys=(("d", "e"),)), "without_key", CHAIN, 1, ("c",))
        self.gives(changed(CHAIN, 2, keys=(("f",),)), "without_key", CHAIN, 2, ("g",))

    def test_key_that_is_none(self):
        for number, key in ((0, ()), (0, ("cust",)), (0, ("cust", "oid")), (1, ("city",)), (2, ("kind",))):
            self.refuses("Unfit", {}, "without_key", SHOP, number, key)

    def test_key_to_which_a_reference_is(self):
        for number, key in ((1, ("d", "e")), (2, ("f",)), (3, ()), (3, ("h",))):
            self.refuses("Unfit", {}, "without_key", CHAIN, number, key)

    def test_a_reference_to_a_like_key_of_another_sheet_does_not_count(self):
        target = (("b",), (), ((),), ())
        schema = ((("a",), (), ((),), ((1, (), ()),)), target)
        self.gives(changed(schema, 0, keys=()), "without_key", schema, 0, ())
        self.refuses("Unfit", {}, "without_key", schema, 1, ())

    def test_order_of_errors(self):
        for name in ("with_key", "without_key"):
            for number in OTHER_NUMBERS:
                self.refuses("NoSheet", {"number": number}, name, SHOP, number, ("x",))
            self.refuses("NoColumn", {"name": "x"}, name, SHOP, 1, ("x", "y"))
            self.refuses("NoColumn", {"name": "x"}, name, SHOP, 1, ("cust", "x"))
            self.refuses("Unfit", {}, name, SHOP, 1, ("good",))
            self.refuses("Unfit", {}, name, SHOP, 1, ("good", "name"))
            self.refuses("Unfit", {}, name, SHOP, 2, ("name",))


class References(Case):
    def setUp(self):
        self.bare = changed(SHOP, 0, references=())

    def test_with_reference(self):
        lead, item = ORDERS[3]
        self.gives(changed(SHOP, 0, references=(lead,)), "with_reference", self.bare, 0, lead)
        self.gives(SHOP, "with_reference", changed(SHOP, 0, references=(lead,)), 0, item)
        self.gives(SHOP, "with_reference", changed(SHOP, 0, references=(item,)), 0, lead)
        self.gives(changed(SHOP, 1, references=((2, ("land",), ("good",)),)), "with_reference", SHOP, 1,
                   (2, ("land",), ("good",)))

    def test_columns_of_a_reference_need_no_order(self):
        bare = changed(CHAIN, 0, references=())
        for columns in (("b", "a"), ("a", "b")):
            reference = (1, columns, ("d", "e"))
            self.gives(changed(CHAIN, 0, references=(reference,)), "with_reference", bare, 0, reference)
        self.gives(changed(CHAIN, 0, references=((3, (), ()),)), "with_reference", bare, 0, (3, (), ()))

    def test_that_is_no_schema(self):
        for reference in (
            (1, ("cust",), ("city",)), (1, ("cust", "oid"), ("name",)), (1, (), ("name",)), (1, ("cust",), ()),
            (1, ("name",), ("name",)), (1, ("good",), ("name",)), (0, ("cust",), ("oid",)), (1, (), ()),
            (1, ("cust",), ("good",)), (2, ("cust",), ("name",)),
        ):
            self.refuses("Unfit", {}, "with_reference", self.bare, 0, reference)
        self.refuses("Unfit", {}, "with_reference", changed(CHAIN, 0, references=()), 0, (1, ("a", "a"), ("d", "e")))
        self.refuses("Unfit", {}, "with_reference", self.bare, 1, (0, ("name",), ("oid",)))
        self.refuses("Unfit", {}, "with_reference", self.bare, 2, (1, ("good",), ("name",)))
        self.refuses("Unfit", {}, "with_reference", self.bare, 1, (1, ("city",), ("name",)))

    def test_one_to_the_other_is_there_already(self):
        self.refuses("Unfit", {}, "with_reference", SHOP, 0, (1, ("item",), ("name",)))
        self.refuses("Unfit", {}, "with_reference", SHOP, 0, (1, ("cust",), ("name",)))
        self.refuses("Unfit", {}, "with_reference", CHAIN, 0, (3, ("a",), ("h",)))

    def test_order_of_errors(self):
        for number in OTHER_NUMBERS:
            self.refuses("NoSheet", {"number": number}, "with_reference", SHOP, number, (9, ("x",), ("y",)))
            self.refuses("NoSheet", {"number": number}, "with_reference", SHOP, 0, (number, ("x",), ("y",)))
        self.refuses("NoColumn", {"name": "x"}, "with_reference", SHOP, 1, (0, ("x",), ("y",)))
        self.refuses("NoColumn", {"name": "y"}, "with_reference", SHOP, 1, (0, ("name", "name"), ("y", "z")))
        self.refuses("NoColumn", {"name": "x"}, "with_reference", SHOP, 0, (1, ("good", "x", "a"), ("b", "y")))
        self.refuses("NoColumn", {"name": "y"}, "with_reference", SHOP, 0, (1, (), ("y",)))

    def test_without_reference(self):
        self.gives(changed(SHOP, 0, references=ORDERS[3][1:]), "without_reference", SHOP, 0, 1)
        self.gives(changed(SHOP, 0, references=ORDERS[3][:1]), "without_reference", SHOP, 0, 2)
        self.gives(changed(CHAIN, 0, references=CHAIN[0][3][:1]), "without_reference", CHAIN, 0, 3)
        self.gives(changed(CHAIN, 2, references=()), "without_reference", CHAIN, 2, 3)

    def test_no_such_reference(self):
        for number, other in ((0, 0), (1, 2), (1, 0), (2, 0), (2, 1)):
            self.refuses("Unfit", {}, "without_reference", SHOP, number, other)
        self.refuses("Unfit", {}, "without_reference", CHAIN, 0, 2)
        for number in OTHER_NUMBERS:
            self.refuses("NoSheet", {"number": number}, "without_reference", SHOP, number, 5)
            self.refuses("NoSheet", {"number": number}, "without_reference", SHOP, 1, number)


class Sheets(Case):
    def test_with_sheet(self):
        sheet = (("aa", "bb"), (((), "aa"), (("aa",), "bb")), ((), ("bb",)), ())
        self.gives((*SHOP, sheet), "with_sheet", SHOP, sheet)
        self.gives((*CHAIN, sheet), "with_sheet", CHAIN, sheet)

    def test_columns_that_are_known(self):
        for columns, name in ((("kind", "name"), "kind"), (("aa", "name", "oid"), "name"), (("oid",), "oid")):
            self.refuses("Known", {"name": name}, "with_sheet", SHOP, (columns, (), (), ()))

    def test_without_sheet(self):
        loose = (GOODS, BUYERS, ORDERS[:3] + ((),))
        self.gives(loose[:2], "without_sheet", loose, 2)
        self.gives((loose[0], loose[2]), "without_sheet", loose, 1)
        free = (("x",), (), (), ())
        schema = (ORDERS[:3] + (((2, ("cust",), ("name",)), (3, ("item",), ("good",))),), free, BUYERS, GOODS)
        self.gives(SHOP, "without_sheet", schema, 1)

    def test_without_a_sheet_between_two_references(self):
        middle = (("m",), (), (("m",),), ((3, (), ()),))
        schema = (CHAIN[0][:3] + ((CHAIN[0][3]),), (("d", "e"), (), (("d", "e"),), ()), middle, CHAIN[3])
        moved = ((1, ("b", "a"), ("d", "e")), (2, (), ()))
        self.gives((CHAIN[0][:3] + (moved,), schema[1], CHAIN[3]), "without_sheet", schema, 2)

    def test_sheets_that_have_to_stay(self):
        for number in (0, 1, 2):
            self.refuses("Unfit", {}, "without_sheet", SHOP, number)
        for number in (0, 1, 2, 3):
            self.refuses("Unfit", {}, "without_sheet", CHAIN, number)
        self.refuses("Unfit", {}, "without_sheet", (GOODS,), 0)
        self.refuses("Unfit", {}, "without_sheet", (GOODS, BUYERS), 0)

    def test_no_such_sheet(self):
        for number in OTHER_NUMBERS:
            self.refuses("NoSheet", {"number": number}, "without_sheet", SHOP, number)


class Renamed(Case):
    def test_nothing(self):
        self.gives(CHAIN, "renamed", CHAIN, ())
        self.gives(CHAIN, "renamed", CHAIN, (("x", "y"), ("y", "a"), ("h", "h")))

    def test_all_at_once(self):
        swapped = function("renamed")(SHOP, (("cust", "name"), ("name", "cust")))
        self.assertEqual(SHOP[2], swapped[2])
        self.assertEqual(("item", "name", "oid"), swapped[0][0])
        self.assertEqual((1, ("name",), ("cust",)), swapped[0][3][0])
        self.assertEqual((("city", "cust", "land"), ((("city",), "land"),), (("cust",),), ()), swapped[1])
        self.gives(SHOP, "renamed", swapped, (("cust", "name"), ("name", "cust")))
        circle = (("good", "kind"), ("kind", "oid"), ("oid", "good"))
        self.gives(SHOP, "renamed", function("renamed")(SHOP, circle), tuple((there, here) for here, there in circle))

    def test_all_in_order_anew(self):
        sheet = (("a", "b", "c"), (((), "a"), (("a", "b"), "c"), (("c",), "b")), (("a", "b"), ("c",)), ())
        turned = (("x", "y", "z"), (((), "z"), (("x",), "y"), (("y", "z"), "x")), (("x",), ("y", "z")), ())
        self.gives((turned,), "renamed", (sheet,), (("a", "z"), ("b", "y"), ("c", "x")))

    def test_columns_of_a_reference_in_the_order_of_its_key(self):
        far = function("renamed")(CHAIN, (("d", "z"),))
        self.assertEqual(((1, ("a", "b"), ("e", "z")), (3, (), ())), far[0][3])
        self.assertEqual((("c", "e", "z"), (((), "c"),), (("c",), ("e", "z")), CHAIN[1][3]), far[1])
        self.assertEqual(CHAIN[2:], far[2:])
        near = function("renamed")(CHAIN, (("a", "z"), ("e", "y")))
        self.assertEqual(((1, ("b", "z"), ("d", "y")), (3, (), ())), near[0][3])
        self.assertEqual(((("z",), "b"), (("z",), "z")), near[0][1])
        self.gives(CHAIN, "renamed", far, (("z", "d"),))

    def test_two_columns_with_one_name(self):
        for pairs in (
            (("cust", "oid"),), (("cust", "good"),), (("cust", "x"), ("good", "x")), (("a", "b"), ("kind", "good")),
            (("cust", "oid"), ("oid", "item")),
        ):
            self.refuses("Unfit", {}, "renamed", SHOP, pairs)

    def test_a_name_that_is_given_up_is_free(self):
        sheet = (("b", "c"), (), (("b",),), ())
        self.gives((sheet,), "renamed", ((("a", "b"), (), (("a",),), ()),), (("a", "b"), ("b", "c")))


class Closed(Case):
    def test_by_rules_step_by_step(self):
        schema = ((("a", "b", "c"), ((("a", "c"), "b"), (("b",), "c"), (("c",), "a")), (), ()),)
        for some, all_of_it in (((), ()), (("a",), ("a",)), (("b",), ("a", "b", "c")), (("c",), ("a", "b", "c")),
                                (("a", "b"), ("a", "b", "c")), (("a", "b", "c"), ("a", "b", "c"))):
            self.gives(all_of_it, "closed", schema, 0, some)

    def test_rules_in_an_order_that_does_not_suit(self):
        schema = ((("a", "b", "c"), ((("a",), "b"), (("c",), "a")), (), ()),)
        self.gives(("a", "b", "c"), "closed", schema, 0, ("c",))
        self.gives(("b",), "closed", schema, 0, ("b",))

    def test_by_keys(self):
        self.gives(("c", "d", "e"), "closed", CHAIN, 1, ("d", "e"))
        self.gives(("c", "d", "e"), "closed", CHAIN, 1, ())
        self.gives(("f", "g"), "closed", CHAIN, 2, ("g",))
        self.gives((), "closed", CHAIN, 2, ())
        self.gives(("a", "b"), "closed", CHAIN, 0, ("a",))
        self.gives(("b",), "closed", CHAIN, 0, ("b",))

    def test_by_what_is_empty(self):
        self.gives(("h",), "closed", CHAIN, 3, ())
        self.gives(("a",), "closed", ((("a", "b"), (((), "a"),), (), ()),), 0, ())
        self.gives(("a", "b"), "closed", ((("a", "b"), (((), "a"),), (("a",),), ()),), 0, ())

    def test_by_a_key_and_then_a_rule(self):
        part = ((("a", "b", "c"), ((("b",), "a"),), (("a",),), ()),)
        self.gives(("a", "b", "c"), "closed", part, 0, ("b",))
        self.gives(("c",), "closed", part, 0, ("c",))
        both = ((("a", "b", "c"), ((("b",), "c"),), (("a", "c"),), ()),)
        self.gives(("b", "c"), "closed", both, 0, ("b",))
        self.gives(("a", "b", "c"), "closed", both, 0, ("a", "b"))

    def test_order_of_errors(self):
        for number in OTHER_NUMBERS:
            self.refuses("NoSheet", {"number": number}, "closed", SHOP, number, ("x",))
        self.refuses("NoColumn", {"name": "x"}, "closed", SHOP, 1, ("good", "x", "y"))
        self.refuses("NoColumn", {"name": ""}, "closed", SHOP, 1, ("",))
        self.refuses("Unfit", {}, "closed", SHOP, 1, ("good",))
        self.refuses("Unfit", {}, "closed", SHOP, 2, ("good", "name"))


if __name__ == "__main__":
    unittest.main()
