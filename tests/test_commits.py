"""DEEDS at once, and KINDS that wait for one another: edges and wrong inputs. [2] [13]"""

import unittest

from helping import CHAIN, SHOP, STRANGE, Case, done, function, plainly_keeps

COPIED = (None, None, None)
BY_NAME = (("cust",), ("name",), None)
EMPTY = ((), (), ())
TABLES = (
    (("ann", "tea", "a", 5),), (("rome", "it", "ann"), ("york", "uk", "eve")), (("cup", "ware"), ("tea", "food")),
)
COME = ("put", 0, ("eve", "tea", "d", -3))
GO = ("take", 1, ("york", "uk", "eve"))
PUT, TAKE = ("put", 0), ("take", 1)


class AtOnce(Case):
    def test_kinds(self):
        self.gives([("put", 0), ("put", 1), ("put", 2), ("take", 0), ("take", 1), ("take", 2)], "kinds", SHOP)
        first, second = function("kinds")(SHOP), function("kinds")(SHOP)
        first.clear()
        self.assertEqual(6, len(second))

    def test_let(self):
        for deed, wanted in (
            (COME, True), (GO, True), (("take", 2, ("cup", "ware")), True), (("take", 0, TABLES[0][0]), True),
            # These change nothing.
            (("put", 0, TABLES[0][0]), False), (("take", 0, COME[2]), False),
            (("take", 0, (*TABLES[0][0][:3], 6)), False),
            # A RULE, a KEY, a REFERENCE ahead and behind stand against these.
            (("put", 1, ("rome", "uk", "kim")), False), (("put", 1, ("oslo", "no", "ann")), False),
            (("put", 0, (*TABLES[0][0][:3], 6)), False), (("put", 0, ("kim", "tea", "d", 1)), False),
            (("take", 1, ("rome", "it", "ann")), False),
        ):
            self.gives(wanted, "is_let_now", SHOP, TABLES, deed)

    def test_at_once(self):
        row = ("oslo", "no", "kim")
        self.gives(TABLES, "at_once", SHOP, TABLES, ())
        self.gives(TABLES, "at_once", SHOP, TABLES, (("put", 2, ("cup", "ware")), ("take", 1, row)))
        # What is both put and taken is there, in whatever order.
        there = (TABLES[0], (row, *TABLES[1]), TABLES[2])
        for deeds in ((("put", 1, row), ("take", 1, row)), (("take", 1, row), ("put", 1, row)), (("put", 1, row),) * 2):
            self.gives(there, "at_once", SHOP, TABLES, deeds)
        self.gives(TABLES, "at_once", SHOP, TABLES, (("put", 2, ("tea", "food")), ("take", 2, ("tea", "food"))))
        # A ROW with another worth is another ROW.
        other = (*TABLES[0][0][:3], 6)
        both = ((TABLES[0][0], other), *TABLES[1:])
        self.gives(both, "at_once", SHOP, TABLES, (("put", 0, other),))
        self.gives(((other,), *TABLES[1:]), "at_once", SHOP, TABLES, (("put", 0, other), ("take", 0, TABLES[0][0])))
        # What they lead to need not keep.
        self.gives((TABLES[0], (), TABLES[2]), "at_once", SHOP, TABLES, (GO, ("take", 1, TABLES[1][0])))

    def test_let_each_by_itself_and_not_together(self):
        ann, bob = ("put", 1, ("oslo", "no", "kim")), ("put", 1, ("oslo", "se", "bob"))
        for deed in (ann, bob, COME, GO):
            self.gives(True, "is_let_now", SHOP, TABLES, deed)
        self.gives([(0, 1), (2, 3)], "breaking_pairs", SHOP, TABLES, (ann, bob, COME, GO))
        self.gives([], "breaking_pairs", SHOP, TABLES, (ann, GO))
        for deeds in ((), (ann,), (COME, COME), (GO, GO)):
            self.gives([], "breaking_pairs", SHOP, TABLES, deeds)

    def test_pairs_of_deeds_that_are_not_let(self):
        lost = ("put", 0, ("kim", "tea", "d", 1))
        # Each by itself does not keep; with the buyer it does.
        self.gives([(0, 1), (0, 3), (1, 3)], "breaking_pairs", SHOP, TABLES, (
            lost, lost, ("put", 1, ("oslo", "no", "kim")), GO))
        self.gives([(0, 1)], "breaking_pairs", SHOP, TABLES, (lost, lost))
        self.gives([], "breaking_pairs", SHOP, TABLES, (("put", 2, ("tea", "food")),) * 3)

    def test_apart(self):
        rows = (("put", 0, ("a", "b", "c", 1)), ("take", 1, ("x", "y", "a")), ("put", 1, ("x", "y", "b")))
        for deal, dealing, wanted in (
            (COPIED, (1, ()), (True, True, True)), (BY_NAME, (1, ()), (False, False, False)),
            (BY_NAME, (2, ((("a",), 1),)), (False, True, True)),
            (BY_NAME, (3, ((("a",), 2), (("b",), 2))), (False,) * 3),
            ((None, ("name",), None), (2, ((("b",), 1),)), (True, True, True)),
            (((), ("name",), None), (2, (((), 1), (("b",), 1))), (True, False, True)),
            ((("cust", "cust"), ("name",), ()), (2, ((("a", "a"), 1), (("b",), 1))), (True, False, True)),
        ):
            told = ((0, 1), (0, 2), (1, 2))
            for (at, mate), apart in zip(told, wanted):
                self.gives(apart, "are_apart", SHOP, deal, dealing, rows[at], rows[mate])
                self.gives(apart, "are_apart", SHOP, deal, dealing, rows[mate], rows[at])

    def test_a_deed_beside_itself(self):
        self.gives(False, "are_apart", SHOP, BY_NAME, (2, ((("eve",), 1),)), COME, COME)
        self.gives(True, "are_apart", SHOP, COPIED, (2, ()), COME, COME)


class Calm(Case):
    def told(self, schema, deal, waits):
        """Look whether just these KINDS wait, and whether each clash is one."""
        self.gives(waits, "waits", schema, deal)
        kinds = function("kinds")(schema)
        for kind in kinds:
            for mate in kinds:
                calm = (min(kind, mate), max(kind, mate)) not in waits
                self.gives(calm, "is_calm", schema, deal, kind, mate)
                clash = function("a_clash")(schema, deal, kind, mate)
                self.assertIs(calm, clash is None)
                if not calm:
                    self.gives(True, "is_clash", schema, deal, kind, mate, clash)
                    tables, _, one, other = clash
                    self.assertTrue(plainly_keeps(schema, tables))
                    self.assertFalse(plainly_keeps(schema, done(tables, (one, other))))

    def test_copied(self):
        puts = [(("put", number), ("put", number)) for number in range(3)]
        takes = [(("put", 0), ("take", 1)), (("put", 0), ("take", 2))]
        self.told(SHOP, COPIED, sorted([*puts, *takes]))

    def test_dealt(self):
        self.told(SHOP, ((), (), ()), [])
        by_key = (("oid",), ("city",), ("good",))
        self.told(SHOP, by_key, [(("put", 0), ("take", 1)), (("put", 0), ("take", 2)), (("put", 1), ("put", 1))])
        self.told(SHOP, ((), ("name", "city"), None), [
            (("put", 0), ("take", 1)), (("put", 0), ("take", 2)), (("put", 1), ("put", 1)), (("put", 2), ("put", 2))])

    def test_without_keys_and_rules(self):
        self.told(((("a", "b"), (), (), ()),), (None,), [])
        self.told(((("a", "b"), (), (), ()),), (("a",),), [])

    def test_a_key_of_sheet_0_and_worths(self):
        # Two ROWS with the same NAMES have unlike worths: copied, they stand against each KEY.
        whole = ((("a",), (), (("a",),), ()),)
        pair = [(("put", 0), ("put", 0))]
        self.told(whole, (None,), pair)
        self.told(whole, (("a",),), [])
        self.told(whole, ((),), [])
        clash = function("a_clash")(whole, (None,), *pair[0])
        self.assertEqual(clash[2][2][:1], clash[3][2][:1])
        self.assertNotEqual(clash[2][2], clash[3][2])
        # In other SHEETS two ROWS with the same in all COLUMNS are one.
        second = ((("a",), (), (), ()), (("b",), (), (("b",),), ()))
        self.told(second, (None, None), [])

    def test_an_empty_key_and_an_empty_few(self):
        mates = [(("put", 0), ("put", 0))]
        for parts in (((((), "a"),), ()), ((), ((),))):
            schema = ((("a", "b"), *parts, ()),)
            for deal, waits in (((None,), mates), (((),), []), ((("b",),), mates), ((("b", "a"),), mates)):
                self.told(schema, deal, waits)
        # Dealt by what the RULE settles two that stand against it are in unlike HOUSES.
        self.told(((("a", "b"), (((), "a"),), (), ()),), (("a",),), mates)

    def test_a_rule_that_follows_from_a_reference(self):
        halls = (
            (("boss", "ward"), ((("boss",), "ward"),), (), ((1, ("boss", "ward"), ("hall", "lamp")),)),
            (("hall", "lamp"), ((("hall",), "lamp"),), (("hall", "lamp"),), ()),
        )
        self.told(halls, (None, None), [(("put", 0), ("take", 1)), (("put", 1), ("put", 1))])
        self.told(halls, (("ward",), ("lamp",)), [(("put", 1), ("put", 1))])
        self.told(halls, (("ward",), ("hall",)), [(("put", 0), ("take", 1))])
        # Dealt by nothing, and by a COLUMN twice: not as many, so they are not dealt alike.
        self.told(halls, ((), ("hall", "hall")), [(("put", 0), ("take", 1))])

    def test_what_others_refer_to_can_not_be_taken(self):
        # A ROW of SHEET 0 and one of SHEET 1 refer to one ROW of SHEET 2.
        schema = (
            (("a", "b"), (), (), ((1, ("a", "b"), ("c", "d")), (2, ("b",), ("e",)))),
            (("c", "d"), (), (("c", "d"),), ((2, ("d",), ("e",)),)),
            (("e",), (), (("e",),), ()),
        )
        self.told(schema, COPIED, [(("put", 0), ("take", 1)), (("put", 1), ("take", 2))])

    def test_a_chain(self):
        deal = (None,) * 4
        waits = function("waits")(CHAIN, deal)
        self.told(CHAIN, deal, waits)
        self.assertIn((("put", 2), ("take", 3)), waits)
        # The ROW of SHEET 3 has the KEY (), and the ROW of SHEET 2 to which that of SHEET 1 leads refers to it.
        self.assertNotIn((("put", 0), ("take", 3)), waits)

    def test_refused(self):
        for kind, mate in (
            (("put", 3), ("take", 0)), (("take", 0), ("put", 3)), (("put", -1), PUT), (("Put", 0), PUT), (PUT, ("", 0)),
            (("takes", 1), TAKE), (PUT, ("put", 10 ** 30)), (("x", 9), ("y", 9)),
        ):
            self.refuses("Unfit", {}, "is_calm", SHOP, BY_NAME, kind, mate)
            self.refuses("Unfit", {}, "a_clash", SHOP, BY_NAME, kind, mate)
            self.refuses("Unfit", {}, "is_clash", SHOP, BY_NAME, kind, mate, None)

    def test_each_list_is_new(self):
        first = function("waits")(SHOP, COPIED)
        first.clear()
        self.assertEqual(5, len(function("waits")(SHOP, COPIED)))


class Clashes(Case):
    CLASH = (TABLES, (1, ()), COME, GO)

    def test_clashes(self):
        self.gives(True, "is_clash", SHOP, COPIED, PUT, TAKE, self.CLASH)
        self.gives(True, "is_clash", SHOP, COPIED, TAKE, PUT, (TABLES, (1, ()), GO, COME))
        self.gives(True, "is_clash", SHOP, COPIED, PUT, TAKE, (TABLES, (100, ()), COME, GO))
        dealing = (2, ((("d",), 1),))
        self.gives(True, "is_clash", SHOP, (("oid",), ("name",), None), PUT, TAKE, (TABLES, dealing, COME, GO))

    def test_what_is_none(self):
        self.gives(False, "is_clash", SHOP, COPIED, TAKE, PUT, self.CLASH)
        self.gives(False, "is_clash", SHOP, COPIED, PUT, ("take", 2), self.CLASH)
        self.gives(False, "is_clash", SHOP, BY_NAME, PUT, TAKE, self.CLASH)
        other = ("take", 1, ("rome", "it", "ann"))
        kim = ("put", 0, ("kim", "tea", "d", 1))
        same = ("put", 1, ("rome", "it", "ann"))
        for thing in (
            # One is not let, they keep together, the TABLES do not keep.
            (TABLES, (1, ()), COME, other), (TABLES, (1, ()), kim, GO), (TABLES, (1, ()), TABLES[0][0], GO),
            (TABLES, (1, ()), COME, ("take", 1, ("oslo", "no", "kim"))),
            ((TABLES[0], TABLES[1], ()), (1, ()), COME, GO), ((*TABLES[:2], TABLES[2][:1]), (1, ()), COME, GO),
        ):
            self.gives(False, "is_clash", SHOP, COPIED, PUT, TAKE, thing)
        mates = ("put", 1), ("put", 1)
        ann, bob = ("put", 1, ("oslo", "no", "kim")), ("put", 1, ("oslo", "se", "bob"))
        self.gives(True, "is_clash", SHOP, COPIED, *mates, (TABLES, (1, ()), ann, bob))
        self.gives(False, "is_clash", SHOP, COPIED, *mates, (TABLES, (1, ()), ann, ann))
        self.gives(False, "is_clash", SHOP, COPIED, *mates, (TABLES, (1, ()), ann, same))
        self.gives(False, "is_clash", SHOP, COPIED, *mates, (TABLES, (1, ()), ann, ("put", 1, ("bern", "ch", "al"))))

    def test_things(self):
        tables, dealing, one, other = self.CLASH
        things = [*STRANGE, [*self.CLASH], self.CLASH[:3], (*self.CLASH, None), (list(tables), dealing, one, other)]
        things += [(tables, list(dealing), one, other), (tables, dealing, list(one), other), (tables, None, one, other)]
        things += [(tables, dealing, one, None), (tables, (0, ()), one, other), (tables, (True, ()), one, other)]
        things += [(tables[:2], dealing, one, other), (tables, dealing, (*one[:2], list(one[2])), other)]
        things += [(tables, dealing, one, ("take", True, other[2])), (tables, dealing, ("put", False, one[2]), other)]
        things += [(tables, dealing, ("put", 7, one[2]), other), (tables, dealing, ("put", 0, one[2][:3]), other)]
        things += [((tables[0], tables[1][::-1], tables[2]), dealing, one, other)]
        for thing in things:
            self.gives(False, "is_clash", SHOP, COPIED, PUT, TAKE, thing)


if __name__ == "__main__":
    unittest.main()
