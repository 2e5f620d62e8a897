"""TABLES: whether they keep their SCHEMA, their ROWS, DEEDS in them, MEETINGS and answers. [5]"""

import itertools
import unittest

from helping import CHAIN, SHOP, Case, function, listed

ORDERS = (("ann", "tea", "a", 5), ("ann", "tea", "b", -2), ("bob", "cup", "c", 1))
BUYERS = (("rome", "it", "ann"), ("rome", "it", "bob"), ("york", "uk", "eve"))
GOODS = (("cup", "ware"), ("tea", "food"))
TABLES = (ORDERS, BUYERS, GOODS)
EMPTY = ((), (), ())
OTHER_NUMBERS = (3, 4, -1, -2, -3, 10 ** 30, -10 ** 30)
IN_CHAIN = (
    (("q", "p", 0), ("q", "p", 7)),
    (("c", "p", "q"),),
    (("c", "h"),),
    (("h",),),
)


class Keeping(Case):
    def test_without_rows(self):
        for schema, tables in ((SHOP, EMPTY), (CHAIN, ((), (), (), ()))):
            self.gives(True, "keeps", schema, tables)
            for name in ("broken_rules", "broken_keys", "broken_references"):
                self.gives((), name, schema, tables)

    def test_all_kept(self):
        self.gives(True, "keeps", SHOP, TABLES)
        self.gives(True, "keeps", CHAIN, IN_CHAIN)
        for name in ("broken_rules", "broken_keys", "broken_references"):
            self.gives((), name, SHOP, TABLES)
            self.gives((), name, CHAIN, IN_CHAIN)

    def test_broken_rules(self):
        schema = (
            (("a", "b", "c"), (((), "c"), (("a", "b"), "c"), (("b",), "a")), (), ()),
            (("d", "e"), (((), "d"), (("d",), "e")), (), ()),
        )
        one, two = (("x", "y", "z", 0), ("x", "y", "z", 1)), (("k", "l"),)
        self.gives((), "broken_rules", schema, (one, two))
        self.gives((((), "c"), (("a", "b"), "c")), "broken_rules", schema, ((*one, ("x", "y", "zz", 0)), two))
        self.gives(((("b",), "a"),), "broken_rules", schema, ((*one, ("y", "y", "z", 0)), two))
        self.gives((((), "c"), ((), "d"), (("b",), "a")), "broken_rules", schema,
                   (((*one, ("z", "y", "x", 0))), (*two, ("m", "l"))))
        self.gives(((("d",), "e"),), "broken_rules", schema, (one, (*two, ("k", "m"))))

    def test_broken_rules_ascend_over_all_sheets(self):
        schema = ((("z",), (((), "z"),), (), ()), (("a",), (((), "a"),), (), ()), (("k",), (), (), ()))
        both = ((("a", 0), ("b", 0)), (("a",), ("b",)), (("a",), ("b",)))
        self.gives((((), "a"), ((), "z")), "broken_rules", schema, both)
        self.gives(False, "keeps", schema, both)

    def test_rows_with_unlike_worths_only_keep_rules_but_not_keys(self):
        twins = (("ann", "tea", "a", 5), ("ann", "tea", "a", 6))
        ruled = ((("cust", "item", "oid"), ((("cust",), "item"), (("item",), "oid")), (), ()),)
        self.gives((), "broken_rules", ruled, (twins,))
        self.gives(True, "keeps", ruled, (twins,))
        self.gives(((0, ("oid",)),), "broken_keys", SHOP, (twins, BUYERS, GOODS))
        self.gives(False, "keeps", SHOP, (twins, BUYERS, GOODS))

    def test_rows_that_are_not_side_by_side(self):
        rows = (("a", "x", "k"), ("b", "y", "l"), ("c", "x", "m"))
        schema = ((("o",), (), (), ()), (("p", "q", "r"), ((("q",), "r"),), (("q",),), ()))
        self.gives(((("q",), "r"),), "broken_rules", schema, ((), rows))
        self.gives(((1, ("q",)),), "broken_keys", schema, ((), rows))

    def test_broken_keys(self):
        self.gives((), "broken_keys", CHAIN, ((), (("c", "d", "e"), ("d", "d", "f")), (), (("h",),)))
        self.gives(((1, ("c",)),), "broken_keys", CHAIN, ((), (("c", "d", "e"), ("c", "e", "d")), (), ()))
        self.gives(((1, ("d", "e")), (2, ("g",)), (3, ())), "broken_keys", CHAIN,
                   ((), (("c", "d", "e"), ("d", "d", "e")), (("f", "g"), ("g", "g")), (("g",), ("h",))))
        self.gives(((0, ("oid",)), (1, ("name",)), (2, ("good",))), "broken_keys", SHOP, (
            (("ann", "tea", "a", 0), ("bob", "tea", "a", 0)),
            (("oslo", "no", "ann"), ("rome", "it", "ann")),
            (("tea", "a"), ("tea", "b")),
        ))

    def test_a_key_of_all_columns(self):
        schema = ((("a", "b"), (), (("a", "b"),), ()), (("c", "d"), (), (("c", "d"),), ()))
        self.gives((), "broken_keys", schema, ((("a", "a", 1), ("a", "b", 1)), (("a", "a"), ("a", "b"), ("b", "a"))))
        self.gives(((0, ("a", "b")),), "broken_keys", schema, ((("a", "a", 1), ("a", "a", 2)), ()))

    def test_broken_references(self):
        self.gives(((0, 1), (0, 2)), "broken_references", SHOP, (ORDERS, (), ()))
        self.gives(((0, 2),), "broken_references", SHOP, (ORDERS, BUYERS, ()))
        self.gives(((0, 1),), "broken_references", SHOP, (ORDERS, BUYERS[1:], GOODS))
        self.gives(((0, 1),), "broken_references", SHOP, (ORDERS, BUYERS[::2], GOODS))
        self.gives((), "broken_references", SHOP, ((), BUYERS, ()))
        self.gives(((0, 1), (0, 3), (1, 2), (2, 3)), "broken_references", CHAIN, (
            (("a", "b", 0),), (("c", "a", "b"),), (("f", "g"),), (),
        ))
        self.gives(((2, 3),), "broken_references", CHAIN, ((), (), (("f", "g"),), (("h",),)))

    def test_a_reference_finds_by_key_not_by_order_of_columns(self):
        self.gives((), "broken_references", CHAIN, ((("a", "b", 0),), (("c", "b", "a"),), (("c", "h"),), (("h",),)))
        self.gives(((0, 1),), "broken_references", CHAIN,
                   ((("a", "b", 0),), (("c", "a", "b"),), (("c", "h"),), (("h",),)))

    def test_to_find_more_than_one_row_is_no_break_of_the_reference(self):
        tables = ((ORDERS[0],), (("oslo", "no", "ann"), ("rome", "it", "ann")), GOODS)
        self.gives((), "broken_references", SHOP, tables)
        self.gives(((1, ("name",)),), "broken_keys", SHOP, tables)
        self.gives(False, "keeps", SHOP, tables)

    def test_one_break_is_enough(self):
        self.gives(False, "keeps", SHOP, (ORDERS, BUYERS, GOODS[:1]))
        self.gives(False, "keeps", SHOP, ((), (("rome", "it", "ann"), ("rome", "uk", "bob")), ()))
        self.gives(False, "keeps", SHOP, ((), (), (("tea", "a"), ("tea", "b"))))


class Rows(Case):
    def test_rows_with(self):
        self.gives(BUYERS[:2], "rows_with", SHOP, TABLES, 1, ("land",), ("it",))
        self.gives(ORDERS[:2], "rows_with", SHOP, TABLES, 0, ("item", "cust"), ("tea", "ann"))
        self.gives(ORDERS[1:2], "rows_with", SHOP, TABLES, 0, ("oid",), ("b",))
        self.gives((), "rows_with", SHOP, TABLES, 1, ("land",), ("rome",))
        self.gives((), "rows_with", SHOP, EMPTY, 1, ("land",), ("it",))

    def test_no_columns_and_like_columns(self):
        self.gives(BUYERS, "rows_with", SHOP, TABLES, 1, (), ())
        self.gives((), "rows_with", SHOP, EMPTY, 1, (), ())
        self.gives(BUYERS[:2], "rows_with", SHOP, TABLES, 1, ("city", "city"), ("rome", "rome"))
        self.gives((), "rows_with", SHOP, TABLES, 1, ("city", "city"), ("rome", "york"))

    def test_strings_that_are_no_names(self):
        for name in ("", "Rome", "a b", "longerthaneight"):
            self.gives((), "rows_with", SHOP, TABLES, 1, ("city",), (name,))

    def test_rows_with_order_of_errors(self):
        for number in OTHER_NUMBERS:
            self.refuses("NoSheet", {"number": number}, "rows_with", SHOP, TABLES, number, ("x",), ())
        self.refuses("NoColumn", {"name": "x"}, "rows_with", SHOP, TABLES, 1, ("good", "x", "y"), ("a",))
        self.refuses("NoColumn", {"name": "x"}, "rows_with", SHOP, TABLES, 1, ("x",), ("a",))
        self.refuses("Unfit", {}, "rows_with", SHOP, TABLES, 1, ("good",), ("tea",))
        self.refuses("Unfit", {}, "rows_with", SHOP, TABLES, 1, ("city", "good"), ("rome", "tea"))
        for names in ((), ("rome", "it"), ("rome", "rome", "rome")):
            self.refuses("Unfit", {}, "rows_with", SHOP, TABLES, 1, ("city",), names)
        self.refuses("Unfit", {}, "rows_with", SHOP, TABLES, 1, (), ("rome",))

    def test_led_to(self):
        self.gives(((1, BUYERS[0]), (2, GOODS[1])), "led_to", SHOP, TABLES, 0, ORDERS[1])
        self.gives((), "led_to", SHOP, TABLES, 1, BUYERS[2])
        self.gives(((1, ("c", "p", "q")), (2, ("c", "h")), (3, ("h",))), "led_to", CHAIN, IN_CHAIN, 0, ("q", "p", 0))
        self.gives(((2, ("c", "h")), (3, ("h",))), "led_to", CHAIN, IN_CHAIN, 1, ("c", "p", "q"))
        self.gives((), "led_to", CHAIN, IN_CHAIN, 3, ("h",))

    def test_leading_to(self):
        self.gives(((0, ORDERS[2]),), "leading_to", SHOP, TABLES, 1, BUYERS[1])
        self.gives((), "leading_to", SHOP, TABLES, 1, BUYERS[2])
        self.gives((), "leading_to", SHOP, TABLES, 0, ORDERS[0])
        everything = [(number, row) for number, rows in enumerate(IN_CHAIN) for row in rows]
        self.gives(tuple(everything[:-1]), "leading_to", CHAIN, IN_CHAIN, 3, ("h",))
        self.gives(tuple(everything[:-2]), "leading_to", CHAIN, IN_CHAIN, 2, ("c", "h"))
        self.gives(tuple(everything[:2]), "leading_to", CHAIN, IN_CHAIN, 1, ("c", "p", "q"))
        self.gives((), "leading_to", CHAIN, IN_CHAIN, 0, ("q", "p", 7))

    def test_a_row_that_does_not_fit_or_does_not_stand(self):
        for name in ("led_to", "leading_to"):
            for number in OTHER_NUMBERS:
                self.refuses("NoSheet", {"number": number}, name, SHOP, TABLES, number, ())
            for number, row in (
                (0, ()), (0, ("ann", "tea", "a")), (0, ("ann", "tea", "a", 6)), (0, BUYERS[0]), (1, ORDERS[0]),
                (1, ("rome", "it", "eve")), (2, ("tea", "food", 1)), (2, ("tea", 1)), (2, ("Tea", "food")),
                (2, BUYERS[0]),
                (0, ("ann", "tea", 5, "a")), (2, ("cup", "food")),
            ):
                self.refuses("Unfit", {}, name, SHOP, TABLES, number, row)


class Deeds(Case):
    def test_put(self):
        order = ("ann", "tea", "a", 4)
        self.gives(((order, *ORDERS), BUYERS, GOODS), "after", SHOP, TABLES, ("put", 0, order))
        self.gives((ORDERS, (BUYERS[0], ("rome", "it", "b"), *BUYERS[1:]), GOODS), "after", SHOP, TABLES,
                   ("put", 1, ("rome", "it", "b")))
        self.gives(((), (), (("tea", "food"),)), "after", SHOP, EMPTY, ("put", 2, ("tea", "food")))
        self.gives((((*ORDERS, ("z", "z", "z", -10 ** 30))), BUYERS, GOODS), "after", SHOP, TABLES,
                   ("put", 0, ("z", "z", "z", -10 ** 30)))

    def test_take(self):
        self.gives((ORDERS[:1] + ORDERS[2:], BUYERS, GOODS), "after", SHOP, TABLES, ("take", 0, ORDERS[1]))
        self.gives((ORDERS, BUYERS, GOODS[1:]), "after", SHOP, TABLES, ("take", 2, GOODS[0]))

    def test_deeds_that_change_nothing(self):
        self.gives(TABLES, "after", SHOP, TABLES, ("put", 1, BUYERS[1]))
        self.gives(TABLES, "after", SHOP, TABLES, ("take", 0, ("ann", "tea", "a", 6)))
        self.gives(EMPTY, "after", SHOP, EMPTY, ("take", 2, GOODS[0]))

    def test_after_all(self):
        put, take = ("put", 2, ("a", "b")), ("take", 2, ("a", "b"))
        self.gives(TABLES, "after_all", SHOP, TABLES, ())
        self.gives(TABLES, "after_all", SHOP, TABLES, (put, put, take))
        self.gives((ORDERS, BUYERS, (("a", "b"), *GOODS)), "after_all", SHOP, TABLES, (take, put))
        every = tuple(("take", number, row) for number, rows in enumerate(TABLES) for row in rows)
        self.gives(EMPTY, "after_all", SHOP, TABLES, every)

    def test_refused(self):
        for name in ("after", "keeps_after"):
            for number in OTHER_NUMBERS:
                self.refuses("NoSheet", {"number": number}, name, SHOP, TABLES, ("take", number, ("x", 1)))
            for number, row in (
                (2, ()), (2, ("tea",)), (2, ("tea", "food", 0)), (0, ("a", "b", "c")), (1, ("a", "b", 1)),
                (2, ("tea", "")), (2, ("tea", "abcdefghi")), (0, ("a", "b", "c", "d")), (1, ("A", "b", "c")),
            ):
                self.refuses("Unfit", {}, name, SHOP, TABLES, ("put", number, row))
                self.refuses("Unfit", {}, name, SHOP, TABLES, ("take", number, row))

    def test_after_all_is_refused_for_the_first_deed(self):
        fine, lost, bad = ("put", 2, ("a", "b")), ("put", 7, ()), ("take", 1, ("a",))
        self.refuses("NoSheet", {"number": 7}, "after_all", SHOP, TABLES, (fine, lost, bad))
        self.refuses("Unfit", {}, "after_all", SHOP, TABLES, (fine, bad, lost))
        self.refuses("NoSheet", {"number": -1}, "after_all", SHOP, TABLES, (fine, fine, ("take", -1, ()), lost))

    def test_keeps_after(self):
        for expected, deed in (
            (True, ("put", 0, ("bob", "tea", "z", 0))),
            (False, ("put", 0, ("bob", "tea", "a", 0))),
            (False, ("put", 0, ("kim", "tea", "z", 0))),
            (False, ("put", 0, ("ann", "pen", "z", 0))),
            (False, ("put", 1, ("rome", "uk", "kim"))),
            (True, ("put", 1, ("bern", "ch", "kim"))),
            (False, ("take", 2, ("tea", "food"))),
            (True, ("take", 0, ORDERS[0])),
            (True, ("take", 2, ("tea", "ware"))),
        ):
            self.gives(expected, "keeps_after", SHOP, TABLES, deed)
        self.gives(True, "keeps_after", SHOP, (ORDERS[:2], BUYERS[:2], GOODS), ("take", 2, GOODS[0]))
        self.gives(True, "keeps_after", SHOP, (ORDERS, (*BUYERS, ("york", "us", "kim")), GOODS),
                   ("take", 1, ("york", "us", "kim")))

    def test_deeds_to(self):
        self.gives((), "deeds_to", SHOP, TABLES, TABLES)
        self.gives((), "deeds_to", SHOP, EMPTY, EMPTY)
        other = (ORDERS[:2], (("rome", "it", "ann"), ("rome", "it", "zoe")), (*GOODS, ("yak", "food")))
        deeds = (
            ("put", 1, ("rome", "it", "zoe")), ("put", 2, ("yak", "food")),
            ("take", 0, ORDERS[2]), ("take", 1, BUYERS[1]), ("take", 1, BUYERS[2]),
        )
        self.gives(deeds, "deeds_to", SHOP, TABLES, other)
        for order in itertools.permutations(deeds):
            self.assertEqual(other, function("after_all")(SHOP, TABLES, order))

    def test_deeds_to_another_worth(self):
        deeds = (("put", 0, ("ann", "tea", "a", 6)), ("take", 0, ("ann", "tea", "a", 5)))
        self.gives(deeds, "deeds_to", SHOP, (ORDERS[:1], (), ()), ((("ann", "tea", "a", 6),), (), ()))


class Answers(Case):
    def test_meetings_without_links_are_all(self):
        wanted = [(one, two) for one in range(3) for two in range(2)]
        self.gives(wanted, "meetings", SHOP, TABLES, ((0, 2), (), ()))
        self.gives([(0,), (1,), (2,)], "meetings", SHOP, TABLES, ((0,), (), ("oid",)))

    def test_meetings_with_links(self):
        self.gives([(0, 0, 1), (1, 0, 1), (2, 1, 0)], "meetings", SHOP, TABLES,
                   ((0, 1, 2), (("cust", "name"), ("good", "item")), ()))
        self.gives([(0, 0, 0), (0, 0, 1), (1, 0, 0), (1, 0, 1), (2, 1, 0), (2, 1, 1)], "meetings", SHOP, TABLES,
                   ((0, 1, 2), (("cust", "name"),), ()))
        self.gives([], "meetings", SHOP, TABLES, ((0, 1), (("cust", "name"), ("item", "land")), ()))
        self.gives([(0, 1), (1, 1), (2, 0)], "meetings", SHOP, TABLES, ((0, 2), (("good", "item"),), ()))

    def test_links_of_sheets_behind_the_first(self):
        tables = (ORDERS[:1], (("food", "x", "a"), ("ware", "x", "b")), (*GOODS, ("zoo", "food")))
        self.gives([(0, 0, 1), (0, 0, 2), (0, 1, 0)], "meetings", SHOP, tables, ((0, 1, 2), (("city", "kind"),), ()))
        self.gives([(0, 0, 1)], "meetings", SHOP, tables, ((0, 1, 2), (("city", "kind"), ("good", "item")), ()))

    def test_one_column_in_two_links(self):
        tables = ((("a", "a", "x", 0), ("a", "b", "y", 0)), (("a", "b", "c"), ("b", "b", "c")), ())
        self.gives([(0, 0)], "meetings", SHOP, tables, ((0, 1), (("city", "cust"), ("city", "item")), ()))
        self.gives([(1, 0)], "meetings", SHOP, tables, ((0, 1), (("city", "cust"), ("item", "land")), ()))

    def test_meetings_without_rows(self):
        for question in (((0,), (), ()), ((0, 1), (), ()), ((0, 1, 2), (("cust", "name"),), ("city",))):
            self.gives([], "meetings", SHOP, EMPTY, question)
            for word in ("sum", "number", "least", "greatest"):
                self.gives((), "answer", SHOP, EMPTY, question, word)
        self.gives([], "meetings", SHOP, (ORDERS, (), GOODS), ((0, 1), (), ()))
        self.gives((), "answer", SHOP, (ORDERS, (), GOODS), ((0, 1, 2), (), ()), "number")

    def test_each_list_of_meetings_is_new(self):
        question = ((0, 1), (("cust", "name"),), ("city",))
        first = function("meetings")(SHOP, TABLES, question)
        first.append("x")
        second = function("meetings")(SHOP, TABLES, question)
        self.assertEqual([(0, 0), (1, 0), (2, 1)], second)
        self.assertIsNot(second, function("meetings")(SHOP, TABLES, question))
        first.clear()
        self.assertEqual([(0, 0), (1, 0), (2, 1)], second)

    def test_shown(self):
        question = ((0, 1, 2), (("cust", "name"), ("good", "item")), ("city", "kind", "oid"))
        for meeting, names in (((0, 0, 1), ("rome", "food", "a")), ((2, 1, 0), ("rome", "ware", "c"))):
            self.gives(names, "shown", SHOP, TABLES, question, meeting)
        self.gives((), "shown", SHOP, TABLES, ((0,), (), ()), (1,))
        self.gives(("uk",), "shown", SHOP, TABLES, ((0, 1), (), ("land",)), (0, 2))

    def test_shown_of_no_meeting(self):
        question = ((0, 1), (("cust", "name"),), ("city",))
        for meeting in ((), (0,), (0, 0, 0), (0, 1), (2, 0), (3, 0), (0, 3), (-1, 1), (2, -2), (0, -3), (10 ** 30, 0)):
            self.refuses("Unfit", {}, "shown", SHOP, TABLES, question, meeting)
        self.refuses("Unfit", {}, "shown", SHOP, EMPTY, ((0,), (), ()), (0,))
        self.refuses("Unfit", {}, "shown", SHOP, TABLES, ((0, 2), (), ()), (0, 2))
        for meeting in ((0, -1), (-1, 0), (0, 0, 1)):
            self.refuses("Unfit", {}, "shown", SHOP, TABLES, ((0, 2), (), ()), meeting)

    def test_answers_by_each_word(self):
        question = ((0, 1), (("cust", "name"),), ("city",))
        for word, amount in (("sum", 4), ("number", 3), ("least", -2), ("greatest", 5)):
            self.gives(((("rome",), amount),), "answer", SHOP, TABLES, question, word)
            self.gives((((), amount),), "answer", SHOP, TABLES, ((0,), (), ()), word)

    def test_worths_come_once_for_each_meeting(self):
        question = ((0, 1), (), ("land",))
        for word, it, uk in (("sum", 8, 4), ("number", 6, 3), ("least", -2, -2), ("greatest", 5, 5)):
            self.gives(((("it",), it), (("uk",), uk)), "answer", SHOP, TABLES, question, word)

    def test_worths_below_zero(self):
        tables = ((("a", "a", "a", -7), ("a", "a", "b", -3), ("a", "a", "c", -10 ** 30)), (), ())
        for word, amount in (("sum", -10 ** 30 - 10), ("number", 3), ("least", -10 ** 30), ("greatest", -3)):
            self.gives((((), amount),), "answer", SHOP, tables, ((0,), (), ()), word)
        two, none = (tables[0][:2], (), ()), ((("a", "a", "a", -7), ("a", "a", "b", 7)), (), ())
        self.gives(((("a",), -7), (("b",), -3)), "answer", SHOP, two, ((0,), (), ("oid",)), "greatest")
        self.gives((((), 0),), "answer", SHOP, none, ((0,), (), ()), "sum")

    def test_what_is_shown_ascends(self):
        tables = ((("a", "z", "k", 1), ("b", "y", "l", 2), ("c", "y", "m", 4), ("d", "a", "n", 8)), (), ())
        wanted = ((("a",), 8), (("y",), 6), (("z",), 1))
        self.gives(wanted, "answer", SHOP, tables, ((0,), (), ("item",)), "sum")
        both = ((("a", "z"), 1), (("b", "y"), 2), (("c", "y"), 4), (("d", "a"), 8))
        self.gives(both, "answer", SHOP, tables, ((0,), (), ("cust", "item")), "greatest")

    def test_no_word(self):
        question = ((0, 1), (("cust", "name"),), ("city",))
        for word in ("", "most", "Sum", "sums", "su", "least greatest", "put"):
            self.refuses("NoWord", {"word": word}, "answer", SHOP, TABLES, question, word)
            self.refuses("NoWord", {"word": word}, "answer", SHOP, EMPTY, question, word)

    def test_the_same_call_again(self):
        question = ((0, 1), (("cust", "name"),), ("city",))
        for _ in range(2):
            self.assertEqual(((("rome",), 4),), function("answer")(SHOP, TABLES, question, "sum"))
            again = function("answer")(listed(SHOP), listed(TABLES), listed(question), "sum")
            self.assertEqual(((("rome",), 4),), again)


if __name__ == "__main__":
    unittest.main()
