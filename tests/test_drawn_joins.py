"""Copies and their MERGE over drawn SCHEMAS and QUESTIONS, held against copies of small TABLES. [15]"""

import itertools
import random
import unittest

from helping import (
    Case, all_kinds, done, drawn_question, every_deed, function, kept_small_tables, plain_answer, plainly_keeps,
    small_schema, small_tables, some_of, some_tables,
)


def plain_merge(first, copies):
    """Return the MERGE as [15] tells it."""
    tables = []
    for number, rows in enumerate(first):
        every = {row for part in (first, *copies) for row in part[number]}
        stay = {row for row in every if row in rows and all(row in copy[number] for copy in copies)}
        come = {row for row in every if row not in rows and any(row in copy[number] for copy in copies)}
        tables.append(tuple(sorted(stay | come)))
    return tuple(tables)


def plain_changes(first, one):
    """Return the set of the DEEDS that lead from first to one."""
    return {
        (what, number, row)
        for number in range(len(first))
        for what, here, there in (("take", first, one), ("put", one, first))
        for row in here[number] if row not in there[number]
    }


def plainly_adds(schema, question, first, one, other, word="number"):
    parts = [dict(plain_answer(schema, tables, question, word)) for tables in (
        plain_merge(first, (one, other)), one, other, first)]
    names = {names for part in parts for names in part}
    whole, mine, its, old = [lambda shown, part=part: part.get(shown, 0) for part in parts]
    return all(whole(shown) == mine(shown) + its(shown) - old(shown) for shown in names)


class Joins(Case):
    def setUp(self):
        self.chance = random.Random(15)

    def some_kinds(self, schema):
        """Return a set of KINDS that has not both put and take for one SHEET."""
        found = []
        for number in range(len(schema)):
            if self.chance.random() < 0.7:
                found.append((self.chance.choice(("put", "put", "take")), number))
        return tuple(sorted(found))

    def copies(self, schema, first, mine, many=2):
        """Return some copies of TABLES that keep, changed by these KINDS."""
        deeds = [deed for kind in mine for deed in every_deed(schema, kind)]
        changes = [deed for deed in deeds if done(first, (deed,)) != first]
        found = [first]
        for count in (1, 1, 1, 2, 2, 3, 3, 4):
            copy = done(first, self.chance.sample(changes, min(count, len(changes))))
            if plainly_keeps(schema, copy) and copy not in found:
                found.append(copy)
        self.chance.shuffle(found)
        return found[:many]

    def triples(self, schema, mine, its, limit=30):
        for first in kept_small_tables(self.chance, schema, limit=limit, worths=(1, 2)):
            ones, others = self.copies(schema, first, mine), self.copies(schema, first, its)
            for one, other in itertools.product(ones, others):
                yield first, one, other

    def test_merges(self):
        for _ in range(200):
            schema = small_schema(self.chance)
            first, *copies = [self.chance.choice(small_tables(self.chance, schema, limit=3)) for _ in range(4)]
            if self.chance.random() < 0.5:
                first, *copies = [some_tables(self.chance, schema) for _ in range(4)]
            one, other, _ = copies
            self.assertEqual(plain_merge(first, (one, other)), function("merged")(schema, first, one, other))
            self.assertEqual(plain_merge(first, copies), function("merged_all")(schema, first, tuple(copies)))
            self.assertEqual(one, function("merged_all")(schema, first, (one,)))
            self.assertEqual(plain_merge(first, copies), function("merged_all")(schema, first, tuple(copies[::-1])))
            changes = [plain_changes(first, copy) for copy in (one, other)]
            kinds = tuple(sorted({deed[:2] for deed in changes[0]}))
            self.assertEqual(kinds, function("changed_by")(schema, first, one))
            apart = not changes[0] & changes[1]
            self.assertIs(apart, function("are_changed_apart")(schema, first, one, other))
            question = drawn_question(self.chance, schema)
            adds = plainly_adds(schema, question, first, one, other)
            self.assertIs(adds, function("do_add")(schema, question, first, one, other))

    def is_triple(self, schema, mine, its, paper):
        first, one, other = paper
        for tables, some in ((first, ()), (one, mine), (other, its)):
            self.assertTrue(function("is_tables")(schema, tables) and plainly_keeps(schema, tables), paper)
            self.assertLessEqual({deed[:2] for deed in plain_changes(first, tables)}, set(some))

    def test_merges_keep(self):
        told = set()
        for _ in range(150):
            schema = small_schema(self.chance)
            mine, its = self.some_kinds(schema), self.some_kinds(schema)
            keep = function("merges_keep")(schema, mine, its)
            paper = function("merge_paper")(schema, mine, its)
            told.add(keep)
            self.assertIs(keep, paper is None)
            against = [
                pair for pair in itertools.product(mine, its) if function("stands_against")(schema, *pair)
            ]
            self.assertIs(keep, not against)
            if not keep:
                self.is_triple(schema, mine, its, paper)
                self.assertFalse(plainly_keeps(schema, plain_merge(paper[0], paper[1:])), paper)
                self.assertTrue(function("is_merge_paper")(schema, mine, its, paper))
            for thing in self.triples(schema, mine, its):
                wanted = not plainly_keeps(schema, plain_merge(thing[0], thing[1:]))
                self.assertFalse(keep and wanted, (schema, mine, its, thing))
                self.assertIs(wanted, function("is_merge_paper")(schema, mine, its, thing))
        self.assertEqual({True, False}, told)

    def test_kinds_against_one_another(self):
        for _ in range(60):
            schema = small_schema(self.chance)
            copied, kinds = (None,) * len(schema), all_kinds(schema)
            for kind, rival in itertools.product(kinds, repeat=2):
                against = function("stands_against")(schema, kind, rival)
                self.assertIs(against, not function("is_calm")(schema, copied, kind, rival))
                self.assertIs(against, not function("merges_keep")(schema, (kind,), (rival,)))
            mine = some_of(self.chance, sorted(kinds))
            wanted = [
                kind for kind in kinds
                if not any(function("stands_against")(schema, one, kind) for one in mine)
            ]
            self.assertEqual(tuple(sorted(wanted)), function("kinds_beside")(schema, mine))

    def test_answers_add_up(self):
        told = set()
        for _ in range(250):
            schema = small_schema(self.chance)
            question = drawn_question(self.chance, schema)
            mine, its = self.some_kinds(schema), self.some_kinds(schema)
            adds = function("adds_up")(schema, question, mine, its)
            paper = function("adds_paper")(schema, question, mine, its)
            self.assertIs(adds, paper is None)
            if not adds:
                self.is_triple(schema, mine, its, paper)
                changes = [plain_changes(paper[0], copy) for copy in paper[1:]]
                told |= {tuple(sorted({deed[0] for deed in part})) for part in changes}
                self.assertFalse(changes[0] & changes[1])
                self.assertTrue(plainly_keeps(schema, plain_merge(paper[0], paper[1:])))
                self.assertFalse(plainly_adds(schema, question, *paper))
                self.assertTrue(function("is_adds_paper")(schema, question, mine, its, paper))
            for thing in self.triples(schema, mine, its, 15):
                first, one, other = thing
                fits = not plain_changes(first, one) & plain_changes(first, other)
                fits = fits and plainly_keeps(schema, plain_merge(first, (one, other)))
                wanted = fits and not plainly_adds(schema, question, *thing)
                self.assertFalse(adds and wanted, (schema, question, mine, its, thing))
                self.assertIs(wanted, function("is_adds_paper")(schema, question, mine, its, thing))
                if adds and fits:
                    self.assertTrue(plainly_adds(schema, question, *thing, word="sum"))
            told.add(adds)
        self.assertEqual({True, False, ("put",), ("take",)}, told)


if __name__ == "__main__":
    unittest.main()
