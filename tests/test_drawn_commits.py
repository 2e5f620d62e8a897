"""DEEDS at once and calm KINDS over drawn SCHEMAS, held against small TABLES and DEALINGS. [13]"""

import itertools
import random
import unittest

from helping import (
    Case, all_kinds, done, every_deed, function, goes, kept_small_tables, plainly_keeps, row_house, small_schema,
    small_tables, some_deal, some_dealing, some_row,
)


def plainly_apart(schema, deal, dealing, one, other):
    homes = [row_house(schema, deal, dealing, *deed[1:]) for deed in (one, other)]
    return None in homes or homes[0] != homes[1]


def plainly_clashes(schema, deal, tables, dealing, one, other):
    if one == other or not plainly_apart(schema, deal, dealing, one, other):
        return False
    if not goes(schema, tables, one) or not goes(schema, tables, other):
        return False
    return not plainly_keeps(schema, done(tables, (one, other)))


class Commits(Case):
    def setUp(self):
        self.chance = random.Random(13)

    def some_deeds(self, schema, tables, many):
        """Return DEEDS of which some change the TABLES and some do not."""
        deeds = []
        for _ in range(many):
            number = self.chance.randrange(len(schema))
            row = some_row(self.chance, schema, number)
            if tables[number] and self.chance.random() < 0.5:
                row = self.chance.choice(tables[number])
            deeds.append((self.chance.choice(("put", "take")), number, row))
        return tuple(deeds)

    def test_deeds_at_once(self):
        let = 0
        for _ in range(150):
            schema = small_schema(self.chance)
            self.assertEqual(sorted(all_kinds(schema)), function("kinds")(schema))
            for tables in kept_small_tables(self.chance, schema, limit=5):
                deeds = self.some_deeds(schema, tables, 5)
                self.assertEqual(done(tables, deeds), function("at_once")(schema, tables, deeds))
                self.assertEqual(done(tables, deeds), function("at_once")(schema, tables, deeds[::-1]))
                wanted = [
                    pair for pair in itertools.combinations(range(5), 2)
                    if not plainly_keeps(schema, done(tables, [deeds[at] for at in pair]))
                ]
                self.assertEqual(wanted, function("breaking_pairs")(schema, tables, deeds))
                for deed in deeds:
                    self.assertIs(goes(schema, tables, deed), function("is_let_now")(schema, tables, deed))
                good = tuple(deed for deed in deeds if goes(schema, tables, deed))
                let += len(good) > 2
                whole = plainly_keeps(schema, done(tables, good))
                self.assertIs(whole, not function("breaking_pairs")(schema, tables, good), (schema, tables, good))
        self.assertGreater(let, 30)

    def test_apart(self):
        for _ in range(200):
            schema = small_schema(self.chance)
            deal = some_deal(self.chance, schema)
            dealing = some_dealing(self.chance, schema, deal, ("a", "b", "c"))
            for one, other in itertools.combinations(self.some_deeds(schema, ((),) * len(schema), 4), 2):
                wanted = plainly_apart(schema, deal, dealing, one, other)
                self.assertIs(wanted, function("are_apart")(schema, deal, dealing, one, other))

    def clashes(self, schema, deal, kind, mate, every):
        """Yield some quadruples of TABLES, a DEALING and DEEDS of these KINDS."""
        for tables in every:
            ones = [deed for deed in every_deed(schema, kind) if goes(schema, tables, deed)]
            others = [deed for deed in every_deed(schema, mate) if goes(schema, tables, deed)]
            for _ in range(6 if ones and others else 0):
                dealing = some_dealing(self.chance, schema, deal)
                yield tables, dealing, self.chance.choice(ones), self.chance.choice(others)

    def test_calm(self):
        told = set()
        for _ in range(50):
            schema = small_schema(self.chance)
            deal = some_deal(self.chance, schema)
            every, waits = kept_small_tables(self.chance, schema, limit=25), []
            for kind, mate in itertools.product(all_kinds(schema), repeat=2):
                calm = function("is_calm")(schema, deal, kind, mate)
                paper = function("a_clash")(schema, deal, kind, mate)
                told.add((calm, kind[0], mate[0], kind[1] == mate[1], deal[kind[1]] is None))
                self.assertIs(calm, paper is None)
                self.assertIs(calm, function("is_calm")(schema, deal, mate, kind))
                if not calm:
                    waits.extend([(kind, mate)] if kind <= mate else [])
                    self.assertTrue(function("is_tables")(schema, paper[0]) and function("is_dealing")(paper[1]), paper)
                    self.assertEqual((kind, mate), (paper[2][:2], paper[3][:2]))
                    self.assertTrue(plainly_clashes(schema, deal, *paper), (schema, deal, kind, mate, paper))
                    self.assertTrue(function("is_clash")(schema, deal, kind, mate, paper))
                for thing in self.clashes(schema, deal, kind, mate, every):
                    wanted = plainly_clashes(schema, deal, *thing)
                    self.assertFalse(calm and wanted, (schema, deal, kind, mate, thing))
                    self.assertIs(wanted, function("is_clash")(schema, deal, kind, mate, thing))
            self.assertEqual(sorted(waits), function("waits")(schema, deal))
        self.assertEqual({(True, "put", "put", False, True), (False, "put", "put", True, True)} - told, set())
        self.assertGreater(len(told), 15, told)

    def test_deeds_that_are_not_let_are_no_clash(self):
        found = 0
        for _ in range(60):
            schema = small_schema(self.chance)
            deal, kind = (None,) * len(schema), ("put", self.chance.randrange(len(schema)))
            for tables in small_tables(self.chance, schema, limit=10):
                one, other = self.chance.choice(every_deed(schema, kind)), self.chance.choice(every_deed(schema, kind))
                wanted = plainly_clashes(schema, deal, tables, (1, ()), one, other)
                found += not wanted and not plainly_keeps(schema, done(tables, (one, other)))
                self.assertIs(wanted, function("is_clash")(schema, deal, kind, kind, (tables, (1, ()), one, other)))
        self.assertGreater(found, 100)


if __name__ == "__main__":
    unittest.main()
