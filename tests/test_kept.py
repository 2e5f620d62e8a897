"""What a DEED changes, and what is kept: edges and wrong inputs. [2] [14]"""

import unittest

from helping import SHOP, STRANGE, WORDS, Case, function

ANN, BOB, EVE = ("ann", "tea", "a", 5), ("bob", "cup", "b", 2), ("eve", "tea", "c", 5)
PEOPLE = (("rome", "it", "ann"), ("rome", "it", "bob"), ("york", "uk", "eve"))
GOODS = (("cup", "ware"), ("tea", "food"))
TABLES = ((ANN, BOB, EVE), PEOPLE, GOODS)
EMPTY = ((), (), ())
CITIES = ((0, 1), (("cust", "name"),), ("city",))
NAMES = ((0, 1), (("cust", "name"),), ("name",))
ALONE = ((0,), (), ())
ORDERS = ((0,), (), ("oid",))
FREE = ((0, 1), (), ())
KINDS = tuple((what, number) for what in ("put", "take") for number in range(3))
NOT_WORDS = ("", "most", "Sum", "put")


class Lots(Case):
    def test_lots(self):
        for question, deed, wanted in (
            (CITIES, ("take", 0, ANN), [(("rome",), 5)]),
            (CITIES, ("put", 0, ("ann", "tea", "d", -1)), [(("rome",), -1)]),
            (FREE, ("take", 0, BOB), [((), 2)] * 3),
            (FREE, ("put", 1, ("bern", "ch", "al")), [((), 2), ((), 5), ((), 5)]),
            (ALONE, ("take", 0, EVE), [((), 5)]), (CITIES, ("take", 1, PEOPLE[2]), [(("york",), 5)]),
            # A ROW with another worth is another ROW.
            (ALONE, ("put", 0, (*ANN[:3], 6)), [((), 6)]), (ALONE, ("take", 0, (*ANN[:3], 6)), []),
            # Nothing changes, or the SHEET is not chosen, or LINKS find nothing.
            (CITIES, ("put", 0, ANN), []), (CITIES, ("take", 1, ("bern", "ch", "al")), []),
            (CITIES, ("take", 2, GOODS[0]), []), (ALONE, ("take", 1, PEOPLE[0]), []),
            (CITIES, ("put", 0, ("kim", "tea", "d", 1)), []),
            # Two goods of one name: TABLES need not keep.
            (((0, 2), (("good", "item"),), ("kind",)), ("put", 2, ("tea", "wet")), [(("wet",), 5), (("wet",), 5)]),
        ):
            self.gives(wanted, "lots_of", SHOP, TABLES, question, deed)

    def test_lots_that_show_several_tuples(self):
        question = ((0, 1), (), ("city", "oid"))
        wanted = [(("rome", "d"), 1), (("rome", "d"), 1), (("york", "d"), 1)]
        self.gives(wanted, "lots_of", SHOP, TABLES, question, ("put", 0, ("ann", "tea", "d", 1)))

    def test_refused(self):
        for deed, wanted, kept in (
            (("put", 3, ANN), "NoSheet", {"number": 3}), (("take", -1, ()), "NoSheet", {"number": -1}),
            (("put", 0, ANN[:3]), "Unfit", {}), (("take", 1, ANN), "Unfit", {}),
            (("put", 2, ("cup", "Ware")), "Unfit", {}),
            (("put", 2, ()), "Unfit", {}),
        ):
            self.refuses(wanted, kept, "lots_of", SHOP, TABLES, CITIES, deed)
            for word in WORDS:
                self.refuses(wanted, kept, "row_answer", SHOP, CITIES, word, deed)
            self.refuses("NoWord", {"word": "most"}, "row_answer", SHOP, CITIES, "most", deed)

    def test_each_list_is_new(self):
        first = function("lots_of")(SHOP, TABLES, CITIES, ("take", 0, ANN))
        first.clear()
        self.gives([(("rome",), 5)], "lots_of", SHOP, TABLES, CITIES, ("take", 0, ANN))


class Unmoved(Case):
    def told(self, question, word, wanted):
        self.gives(wanted, "unmoved_kinds", SHOP, question, word)
        for kind in KINDS:
            self.gives(kind in wanted, "is_unmoved", SHOP, question, word, kind)
            paper = function("moved_paper")(SHOP, question, word, kind)
            self.assertIs(kind in wanted, paper is None)
            self.gives(paper is not None, "is_moved_paper", SHOP, question, word, kind, paper)

    def test_unmoved(self):
        # What is not chosen moves nothing, nor does what an order of the MEETING refers to.
        rest = tuple(kind for kind in KINDS if kind[1] > 0)
        for word in WORDS:
            self.told(CITIES, word, rest)
            self.told(ALONE, word, rest)
        # Without LINKS an order meets all buyers, its own one among them.
        for word in ("sum", "number"):
            self.told(FREE, word, tuple(kind for kind in KINDS if kind[1] == 2))
        for word in ("least", "greatest"):
            self.told(FREE, word, rest)
        shown = ((0, 1), (), ("city",))
        for word in WORDS:
            self.told(shown, word, tuple(kind for kind in KINDS if kind[1] == 2))

    def test_papers(self):
        deed = ("take", 0, ANN)
        for word, wanted in (("sum", True), ("number", True), ("least", False), ("greatest", False)):
            alike = ((ANN, ("bob", "tea", "e", 5)), PEOPLE, GOODS)
            self.gives(wanted, "is_moved_paper", SHOP, CITIES, word, ("take", 0), (alike, deed))
        self.gives(True, "is_moved_paper", SHOP, CITIES, "least", ("take", 0), (TABLES, ("take", 0, BOB)))
        self.gives(False, "is_moved_paper", SHOP, CITIES, "least", ("put", 0), (TABLES, ("take", 0, BOB)))
        self.gives(False, "is_moved_paper", SHOP, CITIES, "least", ("take", 1), (TABLES, ("take", 0, BOB)))

    def test_things(self):
        tables, deed = TABLES, ("take", 0, BOB)
        things = [*STRANGE, [tables, deed], (deed, tables), (tables, deed, None), (tables,), (list(tables), deed)]
        things += [(tables, list(deed)), (tables, None), (tables, ("take", 0, list(BOB))),
            (tables, ("take", False, BOB))]
        things += [((tables[0][::-1], *tables[1:]), deed), ((tables[0], (), ()), deed), (tables[:2], deed)]
        things += [(tables, ("take", 0, (*BOB[:3], 3))), (tables, ("take", 0, BOB[:3]))]
        for word in ("sum", "least"):
            for thing in things:
                self.gives(False, "is_moved_paper", SHOP, CITIES, word, ("take", 0), thing)
                self.gives(False, "is_kept_paper", SHOP, CITIES, word, ("take", 0), False, thing)
                self.gives(False, "is_row_paper", SHOP, CITIES, word, ("take", 0), thing)

    def test_a_deed_that_does_not_go_is_none(self):
        # It changes nothing, or does not keep behind.
        for deed in (("put", 0, ANN), ("put", 0, ("kim", "tea", "d", 1)), ("put", 0, (*ANN[:3], 1))):
            self.gives(False, "is_moved_paper", SHOP, CITIES, "sum", ("put", 0), (TABLES, deed))
        self.gives(True, "is_moved_paper", SHOP, CITIES, "sum", ("put", 0),
            (TABLES, ("put", 0, ("ann", "tea", "d", 1))))
        self.gives(False, "is_moved_paper", SHOP, CITIES, "sum", ("put", 0),
            (TABLES, ("put", 0, ("ann", "tea", "d", 0))))


class Refused(Case):
    def calls(self, word, kind):
        yield "is_unmoved", (SHOP, CITIES, word, kind)
        yield "moved_paper", (SHOP, CITIES, word, kind)
        yield "is_moved_paper", (SHOP, CITIES, word, kind, None)
        for beside in (False, True):
            yield "is_kept", (SHOP, CITIES, word, kind, beside)
            yield "kept_paper", (SHOP, CITIES, word, kind, beside)
            yield "is_kept_paper", (SHOP, CITIES, word, kind, beside, None)
        yield "is_by_row", (SHOP, CITIES, word, kind)
        yield "row_paper", (SHOP, CITIES, word, kind)
        yield "is_row_paper", (SHOP, CITIES, word, kind, None)
        yield "renewed", (SHOP, CITIES, word, kind, (), None, ())
        yield "renewed", (SHOP, CITIES, word, kind, (), (), ())

    def test_words_ahead_of_sheets(self):
        for word in NOT_WORDS:
            for kind in (("put", 0), ("take", 3), ("put", -1)):
                for name, arguments in self.calls(word, kind):
                    self.refuses("NoWord", {"word": word}, name, *arguments)
            self.refuses("NoWord", {"word": word}, "unmoved_kinds", SHOP, CITIES, word)
            self.refuses("NoWord", {"word": word}, "kept_kinds", SHOP, CITIES, word, True)

    def test_sheets(self):
        for number in (3, -1, 10 ** 30):
            for name, arguments in self.calls("least", ("take", number)):
                self.refuses("NoSheet", {"number": number}, name, *arguments)
            for name, arguments in self.calls("number", ("put", number)):
                self.refuses("NoSheet", {"number": number}, name, *arguments)


class Kept(Case):
    def told(self, schema, question, word, beside, unkept):
        kinds = [(what, number) for what in ("put", "take") for number in range(len(schema))]
        wanted = tuple(kind for kind in kinds if kind not in unkept)
        self.gives(wanted, "kept_kinds", schema, question, word, beside)
        for kind in kinds:
            self.gives(kind in wanted, "is_kept", schema, question, word, kind, beside)
            paper = function("kept_paper")(schema, question, word, kind, beside)
            self.assertIs(kind in wanted, paper is None)
            self.gives(paper is not None, "is_kept_paper", schema, question, word, kind, beside, paper)

    def test_put_and_number(self):
        for question in (CITIES, ALONE, FREE, ORDERS):
            for beside in (False, True):
                self.told(SHOP, question, "number", beside, ())
            self.told(SHOP, question, "sum", True, ())

    def test_take(self):
        orders = (("take", 0),)
        for question in (CITIES, ALONE, NAMES):
            self.told(SHOP, question, "sum", False, orders)
            for word in ("least", "greatest"):
                for beside in (False, True):
                    self.told(SHOP, question, word, beside, orders)

    def test_groups_settle_the_row(self):
        for word in WORDS:
            for beside in (False, True):
                self.told(SHOP, ORDERS, word, beside, ())
        # The name settles a buyer, the city does not. Behind a buyer that no order has, all orders are met.
        by_name, by_city = ((0, 1), (), ("name", "oid")), ((0, 1), (), ("city", "oid"))
        for word in ("least", "greatest"):
            self.told(SHOP, by_name, word, False, ())
            self.told(SHOP, by_city, word, False, (("take", 1),))
            self.told(SHOP, by_city, word, True, ())
        self.told(SHOP, by_city, "sum", False, (("take", 1),))

    def test_beside_number_all_orders_meet_what_goes(self):
        question = ((0, 1), (), ("city",))
        for word in ("least", "greatest"):
            self.told(SHOP, question, word, True, (("take", 0),))
            self.told(SHOP, question, word, False, (("take", 0), ("take", 1)))
        # By a LINK to what is no KEY each buyer has orders of his own.
        linked = ((0, 1), (("city", "item"),), ())
        for word in ("least", "greatest"):
            self.told(SHOP, linked, word, True, (("take", 0), ("take", 1)))

    def test_rows_of_sheet_0_that_are_unlike_by_their_worths_alone(self):
        schema = ((("a",), (), (), ()), (("b",), (), (), ()))
        for question in (((0,), (), ("a",)), ((0, 1), (), ("a",)), ((0, 1), (), ("a", "b"))):
            for word, beside in (("sum", False), ("least", False), ("least", True), ("greatest", True)):
                kept = {kind: function("is_kept")(schema, question, word, kind, beside) for kind in (
                    ("take", 0), ("take", 1))}
                self.assertFalse(kept["take", 0])
                self.told(schema, question, word, beside, tuple(kind for kind in kept if not kept[kind]))
        # A ROW of SHEET 1 that shows its only COLUMN is settled by it.
        self.gives(True, "is_kept", schema, ((0, 1), (), ("a", "b")), "sum", ("take", 1), False)
        self.gives(False, "is_kept", schema, ((0, 1), (), ("a",)), "sum", ("take", 1), False)
        self.gives(True, "is_kept", schema, ((0, 1), (), ("a",)), "least", ("take", 1), True)

    def test_papers(self):
        take, shown = ("take", 0, ANN), ("rome",)
        zero, one = ("bob", "cup", "b", 0), ("bob", "cup", "b", 1)
        alone, more = ((ANN,), PEOPLE, GOODS), ((ANN, zero), PEOPLE, GOODS)
        self.gives(True, "is_kept_paper", SHOP, CITIES, "sum", ("take", 0), False, (alone, more, take, shown))
        self.gives(True, "is_kept_paper", SHOP, CITIES, "sum", ("take", 0), False, (more, alone, take, shown))
        # Beside number the two are unlike ahead; the sums are unlike; nothing else is shown.
        self.gives(False, "is_kept_paper", SHOP, CITIES, "sum", ("take", 0), True, (alone, more, take, shown))
        other = ((ANN, one), PEOPLE, GOODS)
        for thing in ((alone, other, take, shown), (alone, alone, take, shown), (alone, more, take, ("york",))):
            self.gives(False, "is_kept_paper", SHOP, CITIES, "sum", ("take", 0), False, thing)
        # The least is 0 or 1 or none ahead and behind.
        self.gives(False, "is_kept_paper", SHOP, CITIES, "least", ("take", 0), True, (other, more, take, shown))
        less = ("take", 0, one)
        six = ((("ann", "tea", "a", 6), one), PEOPLE, GOODS)
        for word, wanted in (("least", True), ("greatest", False), ("sum", False), ("number", False)):
            thing = (other, six, less, shown)
            self.gives(wanted, "is_kept_paper", SHOP, CITIES, word, ("take", 0), True, thing)
            self.gives(wanted, "is_kept_paper", SHOP, CITIES, word, ("take", 0), False, thing)

    def test_things(self):
        take, zero = ("take", 0, ANN), ("bob", "cup", "b", 0)
        alone, more = ((ANN,), PEOPLE, GOODS), ((ANN, zero), PEOPLE, GOODS)
        things = [(alone, more, take), (alone, more, take, ("rome",), ()), [alone, more, take, ("rome",)]]
        things += [(alone, more, take, shown) for shown in (*STRANGE, "rome", ["rome"], ("rome", "it"), (("rome",),))]
        things += [(alone, list(more), take, ("rome",)), (alone, more, list(take), ("rome",)), (alone, more, None, ())]
        things += [(alone, (*more[:2], ()), take, ("rome",)), (alone, EMPTY, take, ("rome",))]
        things += [(alone, more, ("take", 0, zero), ("rome",)), (alone, more, ("put", 0, ANN), ("rome",))]
        for thing in things:
            self.gives(False, "is_kept_paper", SHOP, CITIES, "sum", ("take", 0), False, thing)


class Renewed(Case):
    def test_put(self):
        for word, kept, wanted in (
            ("sum", ((("rome",), 7),), ((("oslo",), 1), (("rome",), 8))),
            ("number", ((("rome",), 2),), ((("oslo",), 1), (("rome",), 4))),
            ("least", ((("rome",), 2),), ((("oslo",), 1), (("rome",), -4))),
            ("greatest", ((("rome",), 2),), ((("oslo",), 1), (("rome",), 5))),
        ):
            lots = [(("oslo",), 1), (("rome",), -4), (("rome",), 5)]
            for numbers in (None, ((("rome",), 2),)):
                self.gives(wanted, "renewed", SHOP, CITIES, word, ("put", 0), kept, numbers, lots)
                self.gives(kept, "renewed", SHOP, CITIES, word, ("put", 0), kept, numbers, [])

    def test_take(self):
        kept, numbers = ((("a",), 0), (("b",), 6), (("c",), 3)), ((("a",), 1), (("b",), 2), (("c",), 5))
        lots = [(("a",), 0), (("b",), 4)]
        wanted = ((("b",), 2), (("c",), 3))
        self.gives(wanted, "renewed", SHOP, CITIES, "sum", ("take", 0), kept, numbers, lots)
        self.gives(((("b",), 1), (("c",), 5)), "renewed", SHOP, CITIES, "number", ("take", 0), numbers, None, lots)
        self.gives(((("b",), 1), (("c",), 5)), "renewed", SHOP, CITIES, "number", ("take", 0), numbers, numbers, lots)
        self.gives((), "renewed", SHOP, CITIES, "number", ("take", 0), ((("a",), 2),), None, [(("a",), 1), (("a",), 7)])

    def test_groups_settle_what_goes(self):
        kept = ((("a",), 5), (("b",), 2))
        for word in ("sum", "least", "greatest"):
            for numbers in (None, ((("a",), 1), (("b",), 1))):
                lots = [(("a",), 5)]
                self.gives(kept[1:], "renewed", SHOP, ORDERS, word, ("take", 0), kept, numbers, lots)

    def test_unmoved_and_beside_number(self):
        kept, lots = (((), 2),), [((), 2), ((), 7)]
        # Each order still meets its own buyer.
        self.gives((((), -7),), "renewed", SHOP, FREE, "sum", ("take", 1), kept, (((), 4),), lots)
        self.gives(kept, "renewed", SHOP, FREE, "least", ("take", 1), kept, None, lots)
        question = ((0, 1), (), ("city",))
        kept, numbers = ((("rome",), 2), (("york",), 2)), ((("rome",), 4), (("york",), 2))
        lots = [(("york",), 2), (("york",), 7)]
        self.gives(kept[:1], "renewed", SHOP, question, "least", ("take", 1), kept, numbers, lots)
        lots = [(("rome",), 2), (("rome",), 7)]
        self.gives(kept, "renewed", SHOP, question, "least", ("take", 1), kept, numbers, lots)
        self.refuses("CanNot", {}, "renewed", SHOP, question, "least", ("take", 1), kept, None, lots)
        self.refuses("CanNot", {}, "renewed", SHOP, question, "sum", ("take", 1), kept, None, lots)

    def test_a_sheet_that_is_not_chosen(self):
        for word in WORDS:
            for kind in (("put", 2), ("take", 2), ("put", 1), ("take", 1)):
                for numbers in (None, ((("rome",), 1),)):
                    kept = ((("rome",), 1),)
                    self.gives(kept, "renewed", SHOP, CITIES, word, kind, kept, numbers, [])


class ByRow(Case):
    def told(self, schema, question, word, wanted):
        for what in ("put", "take"):
            for number in range(len(schema)):
                by_row = number in wanted
                self.gives(by_row, "is_by_row", schema, question, word, (what, number))
                paper = function("row_paper")(schema, question, word, (what, number))
                self.assertIs(by_row, paper is None)
                self.gives(not by_row, "is_row_paper", schema, question, word, (what, number), paper)

    def test_by_row(self):
        for word in WORDS:
            # An order tells its buyer's name; not his city.
            self.told(SHOP, NAMES, word, (0, 1, 2))
            self.told(SHOP, CITIES, word, (1, 2))
            self.told(SHOP, ((0, 1), (("cust", "name"),), ()), word, (0, 1, 2))
            self.told(SHOP, ALONE, word, (0, 1, 2))
            # An order need not meet such a buyer.
            self.told(SHOP, ((0, 1), (("city", "item"),), ("oid",)), word, (2,))
        for word in ("sum", "number"):
            # It meets all buyers, however many.
            self.told(SHOP, FREE, word, (2,))
        for word in ("least", "greatest"):
            self.told(SHOP, FREE, word, (0, 2))

    def test_row_answer(self):
        for word, amount in (("sum", 5), ("number", 1), ("least", 5), ("greatest", 5)):
            for what in ("put", "take"):
                self.gives(((("ann",), amount),), "row_answer", SHOP, NAMES, word, (what, 0, ANN))
                self.gives((((), amount),), "row_answer", SHOP, ALONE, word, (what, 0, ANN))
                self.gives((), "row_answer", SHOP, NAMES, word, (what, 1, PEOPLE[0]))
                self.gives((), "row_answer", SHOP, NAMES, word, (what, 2, GOODS[0]))
                self.refuses("CanNot", {}, "row_answer", SHOP, CITIES, word, (what, 0, ANN))

    def test_a_row_that_fits_no_meeting(self):
        # Two LINKS to one name: only an order of which cust and item are the same meets it.
        question = ((0, 1), (("cust", "name"), ("item", "name")), ("item",))
        for word, amount in (("sum", 3), ("number", 1), ("least", 3)):
            self.told(SHOP, question, word, (0, 1, 2))
            self.gives((), "row_answer", SHOP, question, word, ("put", 0, ("ann", "tea", "a", 3)))
            self.gives(((("ann",), amount),), "row_answer", SHOP, question, word, ("put", 0, ("ann", "ann", "a", 3)))

    def test_papers(self):
        one, other = ((ANN,), PEOPLE, GOODS), ((ANN,), (("york", "uk", "ann"),), GOODS)
        take = ("take", 0, ANN)
        for word in WORDS:
            self.gives(True, "is_row_paper", SHOP, CITIES, word, ("take", 0), (one, other, take))
            self.gives(False, "is_row_paper", SHOP, NAMES, word, ("take", 0), (one, other, take))
            self.gives(False, "is_row_paper", SHOP, CITIES, word, ("take", 0), (one, one, take))
            self.gives(False, "is_row_paper", SHOP, CITIES, word, ("put", 0), (one, other, take))
        more = ((), PEOPLE, GOODS), ((), (("york", "uk", "ann"),), GOODS)
        self.gives(True, "is_row_paper", SHOP, CITIES, "sum", ("put", 0), (*more, ("put", 0, ANN)))
        self.gives(False, "is_row_paper", SHOP, CITIES, "sum", ("put", 0), (one, more[1], ("put", 0, ANN)))

    def test_things(self):
        one, other = ((ANN,), PEOPLE, GOODS), ((ANN,), (("york", "uk", "ann"),), GOODS)
        take = ("take", 0, ANN)
        things = [(one, other), (one, other, take, ()), [one, other, take], (one, list(other), take),
            (take, one, other)]
        things += [(one, other, list(take)), (one, EMPTY, take), (one, ((ANN,), (), ()), take), (one, other, None)]
        things += [(one, ((ANN, ANN), *other[1:]), take), (one, other, ("take", 0, [*ANN])), (None, other, take)]
        for thing in things:
            self.gives(False, "is_row_paper", SHOP, CITIES, "sum", ("take", 0), thing)


if __name__ == "__main__":
    unittest.main()
