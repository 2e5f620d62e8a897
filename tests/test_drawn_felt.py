"""Felt and fixed COLUMNS over drawn SCHEMAS, held against pairs of small TABLES. [9]"""

import itertools
import random
import unittest

from helping import (
    WORDS, Case, Plain, drawn_question, function, has, kept_small_tables, plain_answer, plainly_keeps, small_schema,
    some_of, some_schema, some_tables, spelled,
)


def projected(schema, tables, some):
    """Return, SHEET by SHEET, what the ROWS have but in some COLUMNS, with their worths, in order."""
    return tuple(
        tuple(sorted(
            (*has(schema, number, row, [column for column in schema[number][0] if column not in some]),
             *row[len(schema[number][0]):])
            for row in rows
        ))
        for number, rows in enumerate(tables)
    )


def pairings(schema, number, rows, mates, some):
    """Yield each way to pair the ROWS of a SHEET with mates that differ in some alone."""
    for order in itertools.permutations(mates):
        left = [column for column in schema[number][0] if column not in some]
        if all(has(schema, number, one, left) == has(schema, number, other, left) for one, other in zip(rows, order)):
            if number > 0 or all(one[-1] == other[-1] for one, other in zip(rows, order)):
                yield list(zip(rows, order))


def again(columns, some):
    return tuple(column + "+" if column in some else column for column in columns)


def doubled(schema, some):
    """Return the wider SCHEMA of [9] in which these COLUMNS stand twice."""
    sheets = []
    for number, (columns, rules, keys, references) in enumerate(schema):
        keys = keys if number == 0 else (*keys, columns)
        sheets.append((
            tuple(dict.fromkeys((*columns, *again(columns, some)))),
            (*rules, *[(again(few, some), *again((one,), some)) for few, one in rules]),
            (*keys, *[again(key, some) for key in keys]),
            (*references, *[(other, again(names, some), again(key, some)) for other, names, key in references]),
        ))
    return tuple(sheets)


class Felt(Case):
    def setUp(self):
        self.chance = random.Random(9)

    def each(self, many, draw=small_schema):
        for _ in range(many):
            schema = draw(self.chance)
            columns = function("columns_of")(schema)
            yield schema, drawn_question(self.chance, schema), some_of(self.chance, columns, self.chance.randint(0, 3))

    def each_fixed(self, many):
        """Draw SCHEMAS of which every third one has a REFERENCE that leads to a RULE: a COLUMN can be fixed then."""
        for at, (schema, question, some) in enumerate(self.each(many)):
            if at % 3 == 0:
                schema = (
                    (("a", "b"), (), (), ((1, ("a", "b"), ("c", "d")),)),
                    (("c", "d"), ((("c",), "d"),) if at % 2 else (((), "c"), (("c",), "d")), (("c", "d"),), ()),
                )
                some = some_of(self.chance, ("a", "b", "c", "d"), self.chance.randint(1, 3))
            yield schema, question, some

    def groups(self, schema, some, limit=150):
        """Yield lists of TABLES that keep the SCHEMA, and that are alike but in some."""
        found = {}
        for tables in kept_small_tables(self.chance, schema, limit=limit, worths=(1, 2), most=2):
            found.setdefault(projected(schema, tables, some), []).append(tables)
        return list(found.values())

    def test_are_alike_but(self):
        told = set()
        for schema, _, some in self.each(200):
            one, other = some_tables(self.chance, schema), some_tables(self.chance, schema)
            changed = tuple(
                tuple(sorted({self.changed(schema, number, row, some) for row in rows}))
                for number, rows in enumerate(one)
            )
            for mate in (one, other, changed):
                wanted = all(
                    len(one[number]) == len(mate[number])
                    and any(True for _ in pairings(schema, number, one[number], mate[number], some))
                    for number in range(len(schema))
                )
                self.assertIs(wanted, function("are_alike_but")(schema, one, mate, some))
                self.assertIs(wanted, function("are_alike_but")(schema, mate, one, some))
                told.add(wanted and one != mate)
        self.assertEqual({True, False}, told)

    def changed(self, schema, number, row, some):
        columns = schema[number][0]
        names = [self.chance.choice("abc") if column in some else row[at] for at, column in enumerate(columns)]
        return (*names, *row[len(columns):])

    def test_fixed(self):
        told = set()
        for schema, _, some in self.each_fixed(120):
            fixed = function("fixed_columns")(schema, some)
            self.assertLessEqual(set(fixed), set(some))
            self.assertEqual(tuple(sorted(fixed)), fixed)
            told.add((len(some), len(fixed)))
            loose = set(some)
            for mates in self.groups(schema, some):
                for one, other in itertools.islice(itertools.product(mates, repeat=2), 40):
                    for number in range(len(schema)):
                        columns = [column for column in some if column in schema[number][0]]
                        for pairs in pairings(schema, number, one[number], other[number], some):
                            for row, mate in pairs:
                                loose -= {
                                    column for column in columns
                                    if has(schema, number, row, [column]) != has(schema, number, mate, [column])
                                }
            self.assertLessEqual(set(fixed), loose, (schema, some))
            for column in set(some) - set(fixed):
                self.look_at_change(schema, some, column)
        self.assertTrue({(1, 1), (1, 0), (2, 1), (2, 0)} <= told, told)

    def look_at_change(self, schema, some, column):
        """Look whether two TABLES, alike but in some, have one ROW each of this SHEET, unlike in this COLUMN."""
        number = [at for at, sheet in enumerate(schema) if column in sheet[0]][0]
        double = doubled(schema, some)
        rows, _ = Plain(double, ((number, double[number][0]),)).picture(1)
        pair = [
            tuple(
                tuple(sorted(
                    tuple(spelled(marks[double[at][0].index(name)]) for name in names) + ((0,) if at == 0 else ())
                    for place, marks in rows if place == at
                ))
                for at, names in enumerate(copy)
            )
            for copy in ([sheet[0] for sheet in schema], [again(sheet[0], some) for sheet in schema])
        ]
        for tables in pair:
            self.assertTrue(plainly_keeps(schema, tables), (schema, some, column, tables))
            self.assertEqual(1, len(tables[number]))
        self.assertEqual(projected(schema, pair[0], some), projected(schema, pair[1], some))
        self.assertNotEqual(*[has(schema, number, tables[number][0], [column]) for tables in pair])

    def test_feels(self):
        told = set()
        for schema, question, some in self.each(100):
            groups = self.groups(schema, some)
            for word in WORDS:
                feels = function("feels")(schema, question, some, word)
                pair = function("parting_pair")(schema, question, some, word)
                told.add((word, feels))
                self.assertIs(feels, pair is not None)
                if feels:
                    self.look_at_pair(schema, question, some, word, pair)
                else:
                    for mates in groups:
                        answers = {plain_answer(schema, tables, question, word) for tables in mates}
                        self.assertEqual(1, len(answers), (schema, question, some, word, mates))
        self.assertEqual(8, len(told))

    def look_at_pair(self, schema, question, some, word, pair):
        one, other = pair
        for tables in pair:
            self.assertTrue(function("is_tables")(schema, tables), tables)
            self.assertTrue(plainly_keeps(schema, tables), tables)
        self.assertEqual(projected(schema, one, some), projected(schema, other, some))
        self.assertNotEqual(*[plain_answer(schema, tables, question, word) for tables in pair])
        self.assertTrue(function("is_parting_pair")(schema, question, some, word, pair))
        self.assertEqual(1, len(one[0]))

    def test_is_parting_pair(self):
        told = set()
        for schema, question, some in self.each(120):
            groups = self.groups(schema, some, 60)
            for _ in range(6):
                mates = self.chance.choice(groups)
                other = self.chance.choice(self.chance.choice(groups))
                pairs = [tuple(self.chance.choice(mates) for _ in range(2)), (mates[0], other)]
                pairs.append((mates[0], some_tables(self.chance, schema)))
                for pair in pairs:
                    kept = all(plainly_keeps(schema, tables) for tables in pair)
                    alike = projected(schema, pair[0], some) == projected(schema, pair[1], some)
                    for word in WORDS:
                        answers = [plain_answer(schema, tables, question, word) for tables in pair]
                        wanted = kept and alike and answers[0] != answers[1]
                        told.add((kept, alike, answers[0] != answers[1]))
                        self.assertIs(wanted, function("is_parting_pair")(schema, question, some, word, pair))
        self.assertGreaterEqual(len(told), 6, told)

    def test_guarantees(self):
        for schema, question, some in self.each(80, some_schema):
            fixed = function("fixed_columns")(schema, some)
            more = tuple(sorted({*some, self.chance.choice(function("columns_of")(schema))}))
            feels = {word: function("feels")(schema, question, some, word) for word in WORDS}
            self.assertIs(feels["least"], feels["greatest"])
            self.assertIs(feels["sum"], feels["number"])
            self.assertTrue(feels["sum"] or not feels["least"])
            for word in WORDS:
                if feels[word]:
                    self.assertNotEqual(some, fixed)
                    self.assertTrue(function("feels")(schema, question, more, word))
                least = function("least_question")(schema, question, word)
                self.assertIs(feels[word], function("feels")(schema, least, some, word))
                full = (question[0], function("full_links")(schema, question), question[2])
                self.assertIs(feels[word], function("feels")(schema, full, some, word))

    def test_felt_columns_and_pairs(self):
        found = 0
        for schema, question, _ in self.each(150):
            columns = function("columns_of")(schema)
            for word in ("sum", "least"):
                alone = tuple(column for column in columns if function("feels")(schema, question, (column,), word))
                self.assertEqual(alone, function("felt_columns")(schema, question, word))
                pairs = [
                    pair for pair in itertools.combinations(columns, 2)
                    if not set(pair) & set(alone) and function("feels")(schema, question, pair, word)
                ]
                self.assertEqual(pairs, function("felt_pairs")(schema, question, word))
                found += len(pairs)
        self.assertGreater(found, 3)


if __name__ == "__main__":
    unittest.main()
