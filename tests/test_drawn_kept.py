"""What DEEDS change, over drawn SCHEMAS and QUESTIONS, held against DEEDS that go in small TABLES. [14]"""

import random
import unittest

from helping import (
    WORDS, Case, all_kinds, amounts, done, drawn_question, every_deed, function, goes, kept_small_tables, plain_answer,
    plain_lots, plainly_keeps, small_schema, some_schema, some_tables,
)


def plain_deed_lots(schema, tables, question, deed):
    """Return the lots of a DEED: what MEETINGS, told by their ROWS, show in the one TABLES and not in the other."""
    counts = []
    behind = done(tables, (deed,))
    for one, other in ((tables, behind), (behind, tables)):
        theirs = [rows_met(other, question, meeting) for meeting, _, _ in plain_lots(schema, other, question)]
        counts.extend(
            (shown, worth) for meeting, shown, worth in plain_lots(schema, one, question)
            if rows_met(one, question, meeting) not in theirs
        )
    return sorted(counts)


def rows_met(tables, question, meeting):
    return [tables[number][place] for number, place in zip(question[0], meeting)]


def at_shown(shown, pairs):
    return [amount for names, amount in pairs if names == shown]


class Going:
    """A DEED that goes in TABLES, with all that [14] asks of it."""

    def __init__(self, schema, question, tables, deed):
        self.tables, self.deed = tables, deed
        self.lots = plain_deed_lots(schema, tables, question, deed)
        behind = done(tables, (deed,))
        self.ahead = {word: plain_answer(schema, tables, question, word) for word in WORDS}
        self.behind = {word: plain_answer(schema, behind, question, word) for word in WORDS}

    def told(self, word, beside, shown):
        """Return what is known of the tuple shown ahead of the DEED."""
        number = at_shown(shown, self.ahead["number"]) if beside else None
        return repr((self.deed, at_shown(shown, self.ahead[word]), number, at_shown(shown, self.lots)))


class Deeds(Case):
    def setUp(self):
        self.chance = random.Random(14)

    def each(self, many, tables=40, deeds=4):
        """Yield SCHEMAS, QUESTIONS, KINDS and DEEDS of these that go in small TABLES."""
        for _ in range(many):
            schema = small_schema(self.chance)
            question = drawn_question(self.chance, schema)
            every = kept_small_tables(self.chance, schema, limit=tables, worths=(1, 2, -1))
            for kind in all_kinds(schema):
                every_one, found = every_deed(schema, kind, worths=(1, 2, -1)), []
                for part in every:
                    able = [deed for deed in every_one if goes(schema, part, deed)]
                    found.extend((part, deed) for deed in self.chance.sample(able, min(len(able), deeds)))
                yield schema, question, kind, [Going(schema, question, *pair) for pair in found]

    def test_lots(self):
        for _ in range(150):
            schema = some_schema(self.chance)
            question, tables = drawn_question(self.chance, schema), some_tables(self.chance, schema)
            for kind in all_kinds(schema):
                deeds = [*every_deed(schema, kind, ("a", "b", "c"))[:4], *[(*kind, row) for row in tables[kind[1]]]]
                for deed in deeds:
                    wanted = plain_deed_lots(schema, tables, question, deed)
                    self.assertEqual(wanted, function("lots_of")(schema, tables, question, deed))

    def test_unmoved(self):
        told = set()
        for schema, question, kind, found in self.each(45):
            for word in WORDS:
                unmoved = function("is_unmoved")(schema, question, word, kind)
                paper = function("moved_paper")(schema, question, word, kind)
                told.add((word, kind[0], kind[1] == 0, unmoved))
                self.assertIs(unmoved, paper is None)
                self.assertIs(unmoved, kind in function("unmoved_kinds")(schema, question, word))
                if not unmoved:
                    tables, deed = paper
                    self.is_going(schema, kind, tables, deed)
                    part = Going(schema, question, tables, deed)
                    self.assertNotEqual(part.ahead[word], part.behind[word])
                    self.assertTrue(function("is_moved_paper")(schema, question, word, kind, paper))
                for part in found:
                    moved = part.ahead[word] != part.behind[word]
                    self.assertFalse(unmoved and moved, (schema, question, word, part.tables, part.deed))
                    given = function("is_moved_paper")(schema, question, word, kind, (part.tables, part.deed))
                    self.assertIs(moved, given)
        # SHEET 0 is always asked, so its ROWS always move the answer.
        self.assertEqual(24, len(told), told)

    def is_going(self, schema, kind, tables, deed):
        self.assertTrue(function("is_tables")(schema, tables) and function("is_deed")(schema, deed), (tables, deed))
        self.assertEqual(kind, deed[:2])
        self.assertTrue(goes(schema, tables, deed), (schema, tables, deed))

    def test_kept(self):
        told = set()
        for schema, question, kind, found in self.each(70):
            for word in WORDS:
                for beside in (False, True):
                    kept = function("is_kept")(schema, question, word, kind, beside)
                    paper = function("kept_paper")(schema, question, word, kind, beside)
                    told.add((word, kind[0], kind[1] == 0, beside, kept))
                    self.assertIs(kept, paper is None)
                    self.assertIs(kept, kind in function("kept_kinds")(schema, question, word, beside))
                    if kept:
                        self.are_kept(schema, question, word, beside, found)
                    else:
                        self.is_kept_paper(schema, question, word, kind, beside, paper)
        kept = [part for part in told if part[-1]]
        self.assertEqual(32, len(kept), kept)
        unkept = {(part[0], part[3]) for part in told if not part[-1]}
        several = {(word, beside) for word in ("least", "greatest") for beside in (False, True)}
        self.assertEqual({("sum", False), *several}, unkept)

    def are_kept(self, schema, question, word, beside, found):
        behind = {}
        for part in found:
            for shown in {shown for pairs in (part.ahead, part.behind) for shown, _ in pairs[word]}:
                told = part.told(word, beside, shown)
                after = repr(at_shown(shown, part.behind[word]))
                self.assertEqual(after, behind.setdefault(told, after), (schema, question, word, told))
            numbers = part.ahead["number"] if beside else None
            new = function("renewed")(schema, question, word, part.deed[:2], part.ahead[word], numbers, part.lots)
            self.assertEqual(part.behind[word], new, (schema, question, word, part.tables, part.deed))

    def is_kept_paper(self, schema, question, word, kind, beside, paper):
        one, other, deed, shown = paper
        for tables in (one, other):
            self.is_going(schema, kind, tables, deed)
        parts = [Going(schema, question, tables, deed) for tables in (one, other)]
        self.assertEqual(*[part.told(word, beside, shown) for part in parts], (schema, question, word, paper))
        behind = [at_shown(shown, part.behind[word]) for part in parts]
        self.assertNotEqual(*behind, (schema, question, word, paper))
        self.assertTrue(function("is_kept_paper")(schema, question, word, kind, beside, paper))
        numbers = parts[0].ahead["number"] if beside else None
        self.refuses("CanNot", {}, "renewed", schema, question, word, kind, parts[0].ahead[word], numbers, ())

    def test_papers_of_kept(self):
        """Hold is_kept_paper against pairs of small TABLES in which one DEED goes."""
        papers = 0
        for schema, question, kind, found in self.each(40, 60):
            by_deed = {}
            for part in found:
                by_deed.setdefault(part.deed, []).append(part)
            for parts in by_deed.values():
                one, other = self.chance.choice(parts), self.chance.choice(parts)
                for word in WORDS:
                    for beside in (False, True):
                        for shown in {shown for pairs in (one.ahead, other.ahead) for shown, _ in pairs[word]}:
                            alike = one.told(word, beside, shown) == other.told(word, beside, shown)
                            behind = [at_shown(shown, part.behind[word]) for part in (one, other)]
                            wanted = alike and behind[0] != behind[1]
                            thing = (one.tables, other.tables, one.deed, shown)
                            given = function("is_kept_paper")(schema, question, word, kind, beside, thing)
                            self.assertIs(wanted, given)
                            papers += wanted
        self.assertGreater(papers, 3)

    def test_by_row(self):
        told = set()
        for schema, question, kind, found in self.each(70):
            for word in WORDS:
                by_row = function("is_by_row")(schema, question, word, kind)
                paper = function("row_paper")(schema, question, word, kind)
                told.add((word, kind[0], kind[1] == 0, by_row))
                self.assertIs(by_row, paper is None)
                if not by_row:
                    one, other, deed = paper
                    for tables in (one, other):
                        self.is_going(schema, kind, tables, deed)
                    answers = [
                        amounts(word, plain_deed_lots(schema, tables, question, deed)) for tables in (one, other)
                    ]
                    self.assertNotEqual(*answers, (schema, question, word, paper))
                    self.assertTrue(function("is_row_paper")(schema, question, word, kind, paper))
                    self.refuses("CanNot", {}, "row_answer", schema, question, word, deed)
                for part in found:
                    lots = amounts(word, part.lots)
                    if by_row:
                        self.assertEqual(lots, function("row_answer")(schema, question, word, part.deed))
                    mate = self.chance.choice([mate for mate in found if mate.deed == part.deed])
                    thing = (part.tables, mate.tables, part.deed)
                    given = function("is_row_paper")(schema, question, word, kind, thing)
                    self.assertIs(lots != amounts(word, mate.lots), given)
        self.assertEqual(32, len(told), told)

    def test_papers_of_tables_that_do_not_keep(self):
        found = 0
        for _ in range(60):
            schema = some_schema(self.chance)
            question, tables = drawn_question(self.chance, schema), some_tables(self.chance, schema)
            for number, rows in enumerate(tables):
                if rows and not plainly_keeps(schema, tables):
                    found += 1
                    kind, deed = ("take", number), ("take", number, rows[0])
                    self.assertIs(False, function("is_moved_paper")(schema, question, "sum", kind, (tables, deed)))
                    empty = ((),) * len(schema)
                    for pair in ((tables, empty), (empty, tables), (tables, tables)):
                        self.assertIs(False, function("is_row_paper")(schema, question, "sum", kind, (*pair, deed)))
        self.assertGreater(found, 20)


if __name__ == "__main__":
    unittest.main()
