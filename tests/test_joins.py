"""Copies, their MERGE, and what adds up: edges and wrong inputs. [2] [15]"""

import unittest

from helping import SHOP, STRANGE, Case, function, plainly_keeps

ANN, BOB = ("ann", "tea", "a", 5), ("bob", "cup", "b", 1)
PEOPLE = (("rome", "it", "ann"), ("york", "uk", "bob"))
GOODS = (("cup", "ware"), ("tea", "food"))
FIRST = ((ANN,), PEOPLE, GOODS)
MORE = ((ANN, BOB), PEOPLE, GOODS)
LESS = ((ANN,), PEOPLE[:1], GOODS)
EMPTY = ((), (), ())
CITIES = ((0, 1), (("cust", "name"),), ("city",))
FREE = ((0, 1), (), ())
PUT0, PUT1, TAKE0, TAKE1 = ("put", 0), ("put", 1), ("take", 0), ("take", 1)


class Copies(Case):
    def test_changed_by(self):
        for one, wanted in (
            (FIRST, ()), (MORE, (PUT0,)), (LESS, (TAKE1,)), (EMPTY, (TAKE0, TAKE1, ("take", 2))),
            # A ROW with another worth is another ROW.
            ((((*ANN[:3], 6),), PEOPLE, GOODS), (PUT0, TAKE0)),
            (((), (("oslo", "no", "kim"), *PEOPLE), GOODS[:1]), (PUT1, TAKE0, ("take", 2))),
        ):
            self.gives(wanted, "changed_by", SHOP, FIRST, one)

    def test_changed_apart(self):
        for one, other, wanted in (
            (FIRST, FIRST, True), (MORE, FIRST, True), (FIRST, LESS, True), (MORE, LESS, True), (MORE, MORE, False),
            (LESS, LESS, False), (LESS, EMPTY, False), (MORE, EMPTY, True),
            (((ANN, BOB, ("eve", "x", "y", 1)), PEOPLE, GOODS), MORE, False),
            (MORE, ((ANN, (*BOB[:3], 2)), PEOPLE, GOODS), True),
        ):
            self.gives(wanted, "are_changed_apart", SHOP, FIRST, one, other)
            self.gives(wanted, "are_changed_apart", SHOP, FIRST, other, one)

    def test_merged(self):
        for one, other, wanted in (
            (FIRST, FIRST, FIRST), (MORE, FIRST, MORE), (MORE, MORE, MORE), (LESS, LESS, LESS), (EMPTY, FIRST, EMPTY),
            (MORE, LESS, ((ANN, BOB), PEOPLE[:1], GOODS)), (MORE, EMPTY, ((BOB,), (), ())),
        ):
            self.gives(wanted, "merged", SHOP, FIRST, one, other)
            self.gives(wanted, "merged", SHOP, FIRST, other, one)
            self.gives(wanted, "merged_all", SHOP, FIRST, (one, other))
            self.gives(wanted, "merged_all", SHOP, FIRST, (other, one, FIRST, one))

    def test_merged_all(self):
        for one in (FIRST, MORE, LESS, EMPTY):
            self.gives(one, "merged_all", SHOP, FIRST, (one,))
        third = (((*ANN[:3], 6),), PEOPLE, GOODS)
        wanted = (((*ANN[:3], 6), BOB), PEOPLE[:1], GOODS)
        self.gives(wanted, "merged_all", SHOP, FIRST, (third, LESS, MORE))

    def test_put_and_taken_beside_first(self):
        # Taken from one copy and not from the other it is gone; put into one it is there.
        self.gives(((BOB,), (), ()), "merged", SHOP, EMPTY, ((BOB,), (), ()), EMPTY)
        self.gives(EMPTY, "merged", SHOP, ((BOB,), (), ()), ((BOB,), (), ()), EMPTY)


class Against(Case):
    def test_against(self):
        puts = tuple(("put", number) for number in range(3))
        against = {(kind, kind) for kind in puts} | {(PUT0, TAKE1), (TAKE1, PUT0), (PUT0, ("take", 2)),
            (("take", 2), PUT0)}
        kinds = function("kinds")(SHOP)
        for kind in kinds:
            for rival in kinds:
                wanted = (kind, rival) in against
                self.gives(wanted, "stands_against", SHOP, kind, rival)
                self.gives(not wanted, "merges_keep", SHOP, (kind,), (rival,))
                paper = function("merge_paper")(SHOP, (kind,), (rival,))
                self.assertIs(wanted, paper is not None)
                self.gives(wanted, "is_merge_paper", SHOP, (kind,), (rival,), paper)
                if wanted:
                    self.assertTrue(all(plainly_keeps(SHOP, tables) for tables in paper))

    def test_beside(self):
        kinds = tuple(function("kinds")(SHOP))
        self.gives(kinds, "kinds_beside", SHOP, ())
        self.gives((PUT0, PUT1, ("put", 2), TAKE0, TAKE1, ("take", 2)), "kinds_beside", SHOP, (TAKE0,))
        self.gives((("put", 2), TAKE0), "kinds_beside", SHOP, (PUT0, PUT1))
        self.gives((TAKE0,), "kinds_beside", SHOP, tuple(("put", number) for number in range(3)))

    def test_nothing_of_mine_or_its(self):
        for some in ((), (PUT0,), (PUT0, PUT1, ("put", 2)), (TAKE0, TAKE1, ("take", 2))):
            self.gives(True, "merges_keep", SHOP, (), some)
            self.gives(True, "merges_keep", SHOP, some, ())
            self.gives(None, "merge_paper", SHOP, some, ())
            self.gives(True, "adds_up", SHOP, FREE, some, ())
            self.gives(None, "adds_paper", SHOP, FREE, (), some)
            self.gives(False, "is_merge_paper", SHOP, (), some, (FIRST, FIRST, FIRST))
            self.gives(False, "is_adds_paper", SHOP, FREE, (), some, (FIRST, FIRST, FIRST))

    def test_several(self):
        self.gives(True, "merges_keep", SHOP, (PUT0,), (PUT1, TAKE0, ("put", 2)))
        self.gives(False, "merges_keep", SHOP, (PUT0, PUT1), (TAKE0, TAKE1))
        paper = function("merge_paper")(SHOP, (PUT0, PUT1), (TAKE0, TAKE1))
        self.gives(True, "is_merge_paper", SHOP, (PUT0, PUT1), (TAKE0, TAKE1), paper)

    def test_papers(self):
        self.gives(True, "is_merge_paper", SHOP, (PUT0,), (TAKE1,), (FIRST, MORE, LESS))
        self.gives(True, "is_merge_paper", SHOP, (TAKE1,), (PUT0,), (FIRST, LESS, MORE))
        self.gives(True, "is_merge_paper", SHOP, (PUT0, PUT1), (TAKE0, TAKE1), (FIRST, MORE, LESS))
        # Not so changed, a MERGE that keeps, copies or TABLES that do not.
        self.gives(False, "is_merge_paper", SHOP, (PUT1,), (TAKE1,), (FIRST, MORE, LESS))
        self.gives(False, "is_merge_paper", SHOP, (PUT0,), (TAKE0,), (FIRST, MORE, LESS))
        self.gives(False, "is_merge_paper", SHOP, (PUT0,), (TAKE1,), (FIRST, MORE, FIRST))
        lost = ((ANN, BOB), PEOPLE[:1], GOODS)
        self.gives(False, "is_merge_paper", SHOP, (PUT0,), (PUT0,), (LESS, lost, LESS))
        self.gives(False, "is_merge_paper", SHOP, (TAKE1,), (TAKE1,), (MORE, lost, MORE))
        self.gives(False, "is_merge_paper", SHOP, (PUT1,), (PUT0,), (lost, MORE, lost))
        # One ROW put into both copies stands against nothing.
        self.gives(False, "is_merge_paper", SHOP, (PUT0,), (PUT0,), (FIRST, MORE, MORE))

    def test_things(self):
        paper = (FIRST, MORE, LESS)
        things = [*STRANGE, [*paper], paper[:2], (*paper, LESS), (FIRST, list(MORE), LESS), (list(FIRST), MORE, LESS)]
        things += [(FIRST, MORE, None), (FIRST, MORE, LESS[:2]), (FIRST, ((BOB, ANN), *MORE[1:]), LESS),
            (FIRST, MORE, ())]
        things += [(FIRST, ((ANN, list(BOB)), *MORE[1:]), LESS), (FIRST, ((ANN, (*BOB[:3], True)), *MORE[1:]), LESS)]
        for thing in things:
            self.gives(False, "is_merge_paper", SHOP, (PUT0,), (TAKE1,), thing)
            self.gives(False, "is_adds_paper", SHOP, FREE, (PUT0,), (TAKE1,), thing)

    def test_refused(self):
        for kind, rival, number in (
            (("put", 3), PUT0, 3), (PUT0, ("take", -1), -1), (("take", 10 ** 30), ("put", 9), 10 ** 30),
            (TAKE0, ("put", 3), 3),
        ):
            kept = {"number": number}
            self.refuses("NoSheet", kept, "stands_against", SHOP, kind, rival)
            self.refuses("NoSheet", kept, "kinds_beside", SHOP, (kind, rival))
            self.refuses("NoSheet", kept, "merges_keep", SHOP, (kind,), (rival,))
            self.refuses("NoSheet", kept, "merge_paper", SHOP, (kind,), (rival,))
            self.refuses("NoSheet", kept, "is_merge_paper", SHOP, (kind,), (rival,), None)
            self.refuses("NoSheet", kept, "adds_up", SHOP, FREE, (kind,), (rival,))
            self.refuses("NoSheet", kept, "adds_paper", SHOP, FREE, (kind,), (rival,))
            self.refuses("NoSheet", kept, "is_adds_paper", SHOP, FREE, (kind,), (rival,), None)
        self.refuses("NoSheet", {"number": 7}, "merges_keep", SHOP, (PUT0, ("put", 7), ("take", 4)), (("put", 5),))
        self.refuses("NoSheet", {"number": 5}, "adds_up", SHOP, FREE, (PUT0,), (PUT1, ("put", 5), ("take", 4)))


class Adds(Case):
    def told(self, schema, question, mine, its, adds):
        self.gives(adds, "adds_up", schema, question, mine, its)
        paper = function("adds_paper")(schema, question, mine, its)
        self.assertIs(adds, paper is None)
        self.gives(not adds, "is_adds_paper", schema, question, mine, its, paper)

    def test_do_add(self):
        for question, one, other, wanted in (
            # Each of these is shown in one of first, one, other and the MERGE alone, or in none.
            (CITIES, FIRST, FIRST, True), (CITIES, MORE, FIRST, True), (FREE, MORE, FIRST, True),
            (FREE, MORE, LESS, False),
            (CITIES, MORE, MORE, False), (CITIES, MORE, LESS, False), (CITIES, EMPTY, EMPTY, False),
            (CITIES, EMPTY, FIRST, True), (FREE, EMPTY, MORE, False), (CITIES, MORE, ((), PEOPLE, GOODS), True),
            (((0,), (), ()), MORE, ((), PEOPLE, GOODS), True), (((0,), (), ("oid",)), MORE, LESS, True),
        ):
            self.gives(wanted, "do_add", SHOP, question, FIRST, one, other)
            self.gives(wanted, "do_add", SHOP, question, FIRST, other, one)

    def test_shown_in_the_merge_alone(self):
        # An order and its buyer come in two copies, met by a LINK that no REFERENCE tells.
        question = ((0, 1), (("city", "item"),), ("land",))
        one = ((("ann", "cup", "x", 1), ANN), PEOPLE, GOODS)
        other = ((ANN,), (("cup", "no", "kim"), *PEOPLE), GOODS)
        self.gives(False, "do_add", SHOP, question, FIRST, one, other)
        self.gives(False, "do_add", SHOP, question, (one[0], other[1], GOODS), one, other)
        self.gives(True, "is_adds_paper", SHOP, question, (PUT0,), (PUT1,), (FIRST, one, other))
        self.gives(False, "is_adds_paper", SHOP, question, (PUT1,), (PUT0,), (FIRST, one, other))
        # Both taken apart: first alone shows it.
        both = (one[0], other[1], GOODS)
        self.gives(True, "is_adds_paper", SHOP, question, (TAKE1,), (TAKE0,), (both, one, other))
        # One alone, the other one alone.
        self.gives(True, "is_adds_paper", SHOP, question, (PUT0,), (TAKE1,), (other, both, FIRST))
        self.gives(True, "is_adds_paper", SHOP, question, (TAKE1,), (PUT0,), (other, FIRST, both))

    def test_adds_up(self):
        for mine, its, linked, free in (
            ((PUT0,), (PUT0,), True, True), ((PUT0,), (PUT1,), True, False), ((PUT0,), (TAKE1,), True, False),
            ((PUT1,), (PUT1,), True, True), ((TAKE1,), (TAKE1,), True, True), ((TAKE0,), (PUT1,), True, False),
            ((PUT1,), (TAKE0,), True, False), ((PUT0, PUT1), (TAKE0, TAKE1), True, False),
            ((PUT0,), (("put", 2),), True, True),
            ((TAKE0,), (TAKE1,), True, False), ((TAKE0,), (TAKE0,), True, True),
            (((PUT0), TAKE1), ((PUT1), TAKE0), True, False),
        ):
            self.told(SHOP, CITIES, mine, its, linked)
            self.told(SHOP, FREE, mine, its, free)

    def test_a_sheet_that_is_not_chosen(self):
        for mine in ((PUT0, PUT1), (TAKE0, TAKE1), (PUT1, TAKE0)):
            for its in (((("put", 2)),), ((("take", 2)),), ()):
                self.told(SHOP, FREE, mine, its, True)

    def test_what_leads_to_it_has_to_come_too(self):
        # The ROW of SHEET 1 in a MEETING is the one to which that of SHEET 0 refers: both are put by one copy.
        schema = (
            (("a", "b"), (), (), ((1, ("a",), ("c",)),)), (("c", "d"), (), (("c",),), ()), (("e",), (), (("e",),), ()),
        )
        question = ((0, 1, 2), (("a", "c"),), ())
        for mine, its, adds in (
            ((PUT0,), (PUT1,), True), ((PUT0,), (("put", 2),), False), ((PUT0, PUT1), (("take", 2),), False),
            ((PUT1,), (("put", 2),), True), ((PUT0, PUT1), (PUT0, PUT1), True),
            ((PUT0, PUT1), (PUT0, PUT1, ("put", 2)), False), ((PUT0, TAKE1), (TAKE0, PUT1), True),
        ):
            self.told(schema, question, mine, its, adds)

    def test_papers(self):
        come = ((ANN,), (("oslo", "no", "kim"), *PEOPLE), GOODS)
        self.gives(True, "is_adds_paper", SHOP, FREE, (PUT0,), (PUT1,), (FIRST, MORE, come))
        self.gives(False, "is_adds_paper", SHOP, CITIES, (PUT0,), (PUT1,), (FIRST, MORE, come))
        self.gives(False, "is_adds_paper", SHOP, FREE, (PUT0,), (PUT0,), (FIRST, MORE, come))
        # Not changed apart; a MERGE that does not keep.
        self.gives(False, "is_adds_paper", SHOP, CITIES, (PUT0,), (PUT0,), (FIRST, MORE, MORE))
        self.gives(False, "is_adds_paper", SHOP, CITIES, (PUT0,), (TAKE1,), (FIRST, MORE, LESS))
        # First, a copy that do not keep.
        lost = ((ANN,), PEOPLE[1:], GOODS)
        self.gives(False, "is_adds_paper", SHOP, FREE, (PUT1,), (PUT0,), (lost, FIRST, lost))
        self.gives(False, "is_adds_paper", SHOP, FREE, (TAKE1,), (PUT0,), (FIRST, lost, MORE))


if __name__ == "__main__":
    unittest.main()
