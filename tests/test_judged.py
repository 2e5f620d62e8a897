"""What a NAME, a SCHEMA, a QUESTION, a DEAL, a ROW, TABLES and a DEED are. [2] [3] [4] [5]"""

import unittest

from helping import CHAIN, SHOP, Case, inside_listed, listed, outside_listed

LAST = (("x", "y", "z"), (), (("x",), ("y", "z")), ())


def sheet(columns=("a", "b", "c"), rules=(), keys=(), references=()):
    return (columns, rules, keys, references)


def referring(*references):
    """Return a SCHEMA, if it is one, of three SHEETS, the first of which has these REFERENCES."""
    return (sheet(references=references), LAST, (("t",), (), ((), ("t",)), ()))


def spoiled(thing):
    """Yield what has, somewhere in thing, something that stands nowhere in what is right."""
    yield from (True, False, "A", ["a"], (True,), [[]], [None, True])
    if isinstance(thing, tuple):
        yield list(thing)
        for at, part in enumerate(thing):
            for other in spoiled(part):
                yield (*thing[:at], other, *thing[at + 1:])


class Spoiled(Case):
    """A list in the place of a tuple, True in the place of a number, at each place of each kind of thing."""

    def test_schemas(self):
        for schema in (SHOP, CHAIN):
            for thing in spoiled(schema):
                self.gives(False, "is_schema", thing)

    def test_questions(self):
        question = ((0, 1, 2), (("cust", "name"), ("good", "item")), ("city", "kind"))
        self.gives(True, "is_question", SHOP, question)
        for thing in spoiled(question):
            self.gives(False, "is_question", SHOP, thing)

    def test_deals(self):
        deal = (("cust", "item"), (), None)
        self.gives(True, "is_deal", SHOP, deal)
        for thing in spoiled(deal):
            self.gives(False, "is_deal", SHOP, thing)

    def test_rows(self):
        for number, row in ((0, ("ann", "tea", "a", 1)), (1, ("rome", "it", "ann")), (2, ("tea", "food"))):
            self.gives(True, "is_row", SHOP, number, row)
            for thing in spoiled(row):
                self.gives(False, "is_row", SHOP, number, thing)

    def test_tables(self):
        tables = ((("ann", "tea", "a", 0), ("ann", "tea", "a", 1)), (), (("cup", "ware"), ("tea", "food")))
        self.gives(True, "is_tables", SHOP, tables)
        for thing in spoiled(tables):
            self.gives(False, "is_tables", SHOP, thing)

    def test_deeds(self):
        for deed in (("put", 0, ("ann", "tea", "a", 1)), ("take", 1, ("rome", "it", "ann"))):
            self.gives(True, "is_deed", SHOP, deed)
            for thing in spoiled(deed):
                self.gives(False, "is_deed", SHOP, thing)


class Schemas(Case):
    def test_schemas(self):
        self.is_such("is_schema", things=(SHOP, CHAIN, (sheet(),), (sheet(("a",)),)))

    def test_of_however_many_sheets_columns_rules_and_keys(self):
        names = [one + other for one in "abcdefghijklmnopqrst" for other in "abcde"]
        self.gives(True, "is_schema", tuple(sheet((name,)) for name in names))
        self.gives(False, "is_schema", tuple(sheet((name,)) for name in (*names, names[50])))
        wide = sheet(tuple(names), tuple(((name,), "aa") for name in names), tuple((name,) for name in names))
        self.gives(True, "is_schema", (wide,))

    def test_other_things(self):
        self.is_not_such("is_schema", things=((), ((),), (sheet(), ()), (sheet(), None), sheet(), (SHOP,)))

    def test_a_list_is_no_tuple(self):
        for change in (listed, outside_listed, inside_listed):
            self.gives(False, "is_schema", change(SHOP))
        things = [list(SHOP), (list(sheet()),)]
        things += [(sheet(["a"]),), (sheet(rules=[]),), (sheet(keys=[]),), (sheet(references=[]),)]
        things += [(sheet(rules=(["a"],)),), (sheet(rules=((["a"], "b"),)),), (sheet(rules=([("a",), "b"],)),)]
        things += [(sheet(keys=(["a"],)),)]
        things += [referring([1, ("a",), ("x",)]), referring((1, ["a"], ("x",))), referring((1, ("a",), ["x"]))]
        things += [referring((2, [], ())), referring((2, (), []))]
        self.is_not_such("is_schema", things=things)

    def test_a_sheet_has_four_members(self):
        whole = sheet()
        self.is_not_such("is_schema", things=((whole[:3],), ((*whole, ()),), (whole, whole[:3])))

    def test_names(self):
        self.is_such("is_schema", things=[(sheet((name,)),) for name in ("a", "z", "abcdefgh", "zzzzzzzz", "mmm")])
        wrong = ("", "abcdefghi", "A", "aB", "a1", "1", "a b", " a", "a ", "a-b", "a_b", "\u00e9", "a\u00df", "a\n")
        wrong = (*wrong, "`", "{", None, True, 1, ("a",), ["a"])
        self.is_not_such("is_schema", things=[(sheet((name,)),) for name in wrong])

    def test_columns_are_a_set_of_one_or_more(self):
        wrong = ((), ("b", "a"), ("a", "a"), ("a", "c", "b"), ("a", 1), ("a", None), "a", "abc", None, 0, ("a", ("b",)))
        self.is_not_such("is_schema", things=[(sheet(columns),) for columns in wrong])

    def test_no_column_is_in_two_sheets(self):
        self.is_such("is_schema", things=((sheet(("b",)), sheet(("a",))), (sheet(("a", "c")), sheet(("b",)))))
        self.is_not_such("is_schema", things=(
            (sheet(("a",)), sheet(("a",))),
            (sheet(("a", "c")), sheet(("b", "c"))),
            (sheet(("a",)), sheet(("b",)), sheet(("a", "d"))),
        ))

    def test_rules(self):
        right = [(((), "a"),), ((("a",), "a"),), ((("a", "c"), "b"),), (((), "a"), ((), "b"), (("a",), "b"))]
        right += [((("a",), "b"), (("a",), "c")), ((("a", "b"), "c"), (("b",), "a"))]
        self.is_such("is_schema", things=[(sheet(rules=rules),) for rules in right])
        wrong = [((("a",), "x"),), ((("x",), "a"),), ((("a", "x"), "b"),), ((("c", "a"), "b"),), ((("a", "a"), "b"),)]
        wrong += [((("a",), "c"), (("a",), "b")), ((("b",), "a"), (("a",), "b")), ((("a",), "b"), (("a",), "b"))]
        wrong += [((("a",),),), ((("a",), "b", "c"),), (("a", "b"),), ((("a",), ("b",)),), ((("a",), None),)]
        wrong += [((("a",), 1),), ((None, "b"),), ("ab",), ("a",), (None,), None, "", 0, (True,), (((1,), "b"),)]
        wrong += [((("a",), ["b"]),), (((["a"],), "b"),)]
        self.is_not_such("is_schema", things=[(sheet(rules=rules),) for rules in wrong])

    def test_rules_are_of_the_columns_of_their_own_sheet(self):
        self.gives(False, "is_schema", (sheet(rules=((("x",), "a"),)), LAST))
        self.gives(False, "is_schema", (sheet(rules=((("a",), "x"),)), LAST))
        self.gives(False, "is_schema", (sheet(rules=((("x",), "y"),)), LAST))

    def test_keys(self):
        right = [((),), (("a",),), (("a", "b", "c"),), ((), ("a",)), (("a",), ("b",)), (("a", "b"), ("b",))]
        self.is_such("is_schema", things=[(sheet(keys=keys),) for keys in right])
        wrong = [(("x",),), (("a", "x"),), (("b", "a"),), (("a", "a"),), (("b",), ("a",)), (("a",), ("a",)), ((), ())]
        wrong += [("a",), ("",), (None,), ((1,),), ((None,),), ((("a",),),), (("a",), ()), None, "", "a", 0, ((True,),)]
        self.is_not_such("is_schema", things=[(sheet(keys=keys),) for keys in wrong])
        self.gives(False, "is_schema", (sheet(keys=(("x",),)), LAST))

    def test_references(self):
        right = [((1, ("a",), ("x",)),), ((1, ("c", "a"), ("y", "z")),), ((1, ("a", "c"), ("y", "z")),)]
        right += [((2, (), ()),), ((2, ("b",), ("t",)),), ((1, ("a",), ("x",)), (2, ("a",), ("t",)))]
        self.is_such("is_schema", things=[referring(*references) for references in right])

    def test_wrong_references(self):
        wrong = [(3, ("a",), ("x",)), (-1, ("b",), ("t",)), (-2, ("a",), ("x",)), (0, ("a",), ("x",)), (2, ("a",), ())]
        wrong += [(2, (), ("t",)), (1, (), ()), (1, ("a",), ("y",)), (1, ("a", "b"), ("x", "y")), (1, ("x",), ("x",))]
        wrong += [(1, ("a", "b"), ("x",)), (1, ("a",), ("y", "z")), (1, ("a", "a"), ("y", "z")), (1, ("t",), ("x",))]
        wrong += [(1, ("a", "b"), ("z", "y")), (True, ("a",), ("x",)), ("1", ("a",), ("x",)), (None, ("a",), ("x",))]
        wrong += [(1, "a", ("x",)), (1, ("a",), "x"), (1, ("a",)), (1, ("a",), ("x",), ()), 1, None, (1, None, ("x",))]
        wrong += [(1, (None,), ("x",)), (1, (["a"],), ("x",)), (1, ("a",), None), ((1,), ("a",), ("x",)), "abc"]
        wrong += [(1, ("q",), ("x",)), (10 ** 30, ("a",), ("x",))]
        self.is_not_such("is_schema", things=[referring(reference) for reference in wrong])
        for references in (None, "", 0, "a"):
            self.gives(False, "is_schema", (sheet(references=references), LAST))

    def test_references_ascend_to_each_sheet_by_one(self):
        one, mate, two = (1, ("a",), ("x",)), (1, ("b",), ("x",)), (2, ("a",), ("t",))
        self.is_such("is_schema", things=(referring(one, two), referring(mate, two), referring()))
        self.is_not_such("is_schema", things=(
            referring(two, one), referring(one, one), referring(one, mate), referring(mate, one),
            referring(one, mate, two), referring(one, (1, ("a", "b"), ("y", "z"))),
        ))

    def test_references_to_lesser_numbers(self):
        first, back = sheet(keys=(("a",),)), (("x",), (), (("x",),), ((0, ("x",), ("a",)),))
        self.gives(False, "is_schema", (first, back))
        self.gives(False, "is_schema", (first, (*back[:3], ((1, ("x",), ("x",)),))))
        self.gives(False, "is_schema", (first, (*back[:3], ((True, ("x",), ("x",)),))))
        self.gives(True, "is_schema", ((*back[:3], ((1, ("x",), ("a",)),)), first))
        self.gives(False, "is_schema", ((*back[:3], ((True, ("x",), ("a",)),)), first))
        self.gives(False, "is_schema", (LAST, (*back[:3], ((-1, ("x",), ("a",)),)), first))

    def test_one_bad_sheet_spoils_all(self):
        self.gives(False, "is_schema", (*SHOP, sheet(("b", "a"))))
        self.gives(False, "is_schema", (*SHOP, sheet(references=((1, ("a",), ("name",)),))))


class Questions(Case):
    def test_questions(self):
        self.is_such("is_question", SHOP, things=(
            ((0,), (), ()),
            ((0, 2), (), ()),
            ((0, 1, 2), (), ("city", "good", "oid")),
            ((0, 1), (("cust", "name"),), ("city",)),
            ((0, 1), (("city", "oid"), ("cust", "name"), ("item", "land")), ()),
            ((0, 1, 2), (("city", "good"), ("good", "item")), ()),
        ))

    def test_other_things(self):
        self.is_not_such("is_question", SHOP, things=(
            (), ((), (), ()), ((0,), ()), ((0,), (), (), ()), (0, (), ()), ((0,), None, ()), ((0,), (), None),
            ("0", (), ()), ((0,), "", ()), ((0,), (), ""),
        ))

    def test_chosen(self):
        wrong = ((1,), (1, 2), (1, 0), (0, 0), (0, 2, 1), (0, 3), (0, 10 ** 30), (-1, 0), (-3, 0), (0, -1))
        wrong = (*wrong, (0, True), (False,), (False, 1), (0, "1"), (0, None), ("0",), (None,), ((0,),), [0], [0, 1])
        self.is_not_such("is_question", SHOP, things=[(chosen, (), ()) for chosen in wrong])

    def test_links(self):
        wrong = ["cust", ("cust", "name"), (("cust", "name", "oid"),), (("cust",),), ("ab",), (None,), (1,), ((),)]
        wrong += [(("name", "cust"),), (("cust", "item"),), (("cust", "cust"),), (("cust", "nobody"),)]
        wrong += [(("aaa", "cust"),), (("good", "item"),), (("cust", "good"),), (("cust", None),), (("cust", 1),)]
        wrong += [(("cust", "name"), ("city", "oid")), (("cust", "name"), ("cust", "name")), [("cust", "name")]]
        wrong += [(["cust", "name"],), ((("cust",), "name"),), (("cust", ["name"]),), (([], []),), ((True, False),)]
        self.is_not_such("is_question", SHOP, things=[((0, 1), links, ()) for links in wrong])

    def test_groups(self):
        wrong = [("good",), ("nobody",), ("cust", "city"), ("city", "city"), ["city"], "city", (None,), (0,), (True,)]
        wrong += [("city", "good"), (["city"],), (("city",),), ("city", 1), ("",)]
        self.is_not_such("is_question", SHOP, things=[((0, 1), (), groups) for groups in wrong])

    def test_a_list_is_no_tuple(self):
        question = ((0, 1), (("cust", "name"),), ("city",))
        self.is_not_such("is_question", SHOP, things=[change(question) for change in (
            list, listed, outside_listed, inside_listed,
        )])


class Deals(Case):
    def test_deals(self):
        self.is_such("is_deal", SHOP, things=(
            (None, None, None), ((), (), ()), (("oid",), None, ("kind",)), (("oid", "cust"), None, ()),
            (("oid", "oid"), ("land", "city", "land"), None), (("cust",) * 100, None, None),
        ))

    def test_other_things(self):
        self.is_not_such("is_deal", SHOP, things=(
            (), (None, None), (None,) * 4, [None] * 3, (("cust",), ["name"], None), (("name",), None, None),
            (None, ("cust",), None), (None, None, ("nobody",)), ("cust", None, None), (("cust", None), None, None),
            (("cust", 0), None, None), ((("cust",),), None, None), (0, None, None), (False, None, None),
            (True, None, None), ("", None, None), ((["cust"],), None, None), (None, None, 0), (None, None, ("item",)),
            (("cust", "good"), None, None), ([], None, None),
        ))

    def test_of_one_sheet(self):
        self.is_such("is_deal", (sheet(),), things=((None,), ((),), (("a",),)))
        self.gives(False, "is_deal", (sheet(),), (("x",),))


class Rows(Case):
    def test_rows_of_the_first_sheet(self):
        names = ("ann", "tea", "a")
        self.is_such("is_row", SHOP, 0, things=[(*names, worth) for worth in (0, 1, -1, 10 ** 30, -10 ** 40)])
        self.is_such("is_row", SHOP, 0, things=(("z", "zzzzzzzz", "z", 0), ("a", "a", "a", 0)))
        self.is_not_such("is_row", SHOP, 0, things=(
            names, (*names, True), (*names, False), (*names, None), (*names, "1"), (*names, (1,)), [*names, 1],
            (*names, "b", 1), (*names[:2], 1), (1, *names), (*names, 1, 1), (*names[:2], 1, 1), (*names[:2], None, 1),
            (), (1,), (*names[:2], "A", 1), (*names[:2], "", 1), (*names[:2], "abcdefghi", 1), ("a1", "b", "c", 1),
        ))

    def test_rows_of_other_sheets(self):
        self.is_such("is_row", SHOP, 2, things=(("tea", "food"), ("a", "a"), ("zzzzzzzz", "z")))
        self.is_not_such("is_row", SHOP, 2, things=(
            ("tea", "food", 1), ("tea",), ("tea", "food", "x"), ["tea", "food"], ("tea", 1), ("tea", None),
            (), ("tea", True), ("tea", ("food",)), ("tea", ["food"]), ("", "food"), ("tea", "foodfoods"), "ab",
            ("tea", "Food"), ("tea", "f\u00f6d"), ("tea", "a b"),
        ))

    def test_no_such_sheet(self):
        for number in (3, -1, -3, 10 ** 30, -10 ** 30):
            self.refuses("NoSheet", {"number": number}, "is_row", SHOP, number, ("tea", "food"))


class Tables(Case):
    def test_tables(self):
        orders = (("ann", "tea", "a", -1), ("ann", "tea", "a", 5), ("ann", "tea", "b", 0), ("bob", "tea", "a", 0))
        self.is_such("is_tables", SHOP, things=(((), (), ()), (orders, (), ()), ((), (), (("a", "b"), ("b", "a")))))

    def test_of_however_many_rows(self):
        many = tuple(sorted((one + other, one) for one in "abcdefghij" for other in "abcdefghij"))
        self.gives(True, "is_tables", SHOP, ((), (), many))
        self.gives(False, "is_tables", SHOP, ((), (), (*many, many[-1])))

    def test_other_things(self):
        goods, order = (("cup", "ware"), ("tea", "food")), ("ann", "tea", "a", 5)
        self.is_not_such("is_tables", SHOP, things=(
            (), ((), ()), ((), (), (), ()), [(), (), ()], ((), (), []), ([], (), ()), ((), (), None), ((), (), 0),
            ((), (), "ab"), ((), (), goods[0]), ((), (), list(goods)), ((), (), goods[::-1]), ((), (), goods[:1] * 2),
            ((), goods, ()), (goods, (), ()), ((), (), (*goods, ("zoo",))), ((), (), (["cup", "ware"],)),
            ((order, order), (), ()), ((("ann", "tea", "b", 5), order), (), ()), ((order[:3],), (), ()),
            (((*order[:3], True),), (), ()), ((("ann", "tea", "a", 6), order), (), ()), ((), (order[:3] + ("x",),), ()),
            ((), (), (("cup", "ware", 1),)), ((), (), (("cup", "Ware"),)),
        ))


class Deeds(Case):
    def test_deeds(self):
        self.is_such("is_deed", SHOP, things=(
            ("put", 0, ("ann", "tea", "a", -5)), ("take", 0, ("ann", "tea", "a", 10 ** 40)),
            ("take", 1, ("rome", "it", "ann")), ("put", 2, ("tea", "food")),
        ))

    def test_other_things(self):
        row = ("tea", "food")
        self.is_not_such("is_deed", SHOP, things=(
            ("puts", 2, row), ("", 2, row), (None, 2, row), (0, 2, row), (("put",), 2, row), (["put"], 2, row),
            ("sum", 2, row), ("Put", 2, row), ("put", 3, row), ("put", -1, row), ("put", "2", row), ("put", None, row),
            ("put", 1, row), ("put", 0, row), ("put", 0, (*row, "a")), ("put", 0, (*row, "a", True)), ("put", 2, None),
            ("put", 2, list(row)), ["put", 2, row], ("put", 2), ("put", 2, row, ()), ("put", 2, *row), (2, "put", row),
            ("put", True, ("rome", "it", "ann")), ("take", False, ("ann", "tea", "a", 5)), ("put", 2, ("tea", 1)),
            ("put", -1, (*row, 1)), ("take", -1, (*row, 0)), ("put", [2], row),
            ("put", (2,), row), ("take", 10 ** 30, row), ("put", 2, ()), ("put", -3, (*row, "a", 1)),
        ))


if __name__ == "__main__":
    unittest.main()
