"""Many SCHEMAS and TABLES, told once more in the plain words of the document, and what it guarantees. [3] [4] [5]"""

import itertools
import random
import unittest

from helping import (
    NAMES, Case, error, function, has, kept_tables, met, plainly_broken, plainly_keeps, refers, some_of, some_question,
    some_row, some_schema, some_tables, steps,
)


class Definitions(Case):
    def setUp(self):
        self.chance = random.Random(20)

    def each(self, many=150):
        for _ in range(many):
            schema = some_schema(self.chance)
            self.assertTrue(function("is_schema")(schema), schema)
            yield schema

    def test_broken_and_keeps(self):
        seen = set()
        for schema in self.each(300):
            tables = some_tables(self.chance, schema)
            self.assertTrue(function("is_tables")(schema, tables))
            rules, keys, references = plainly_broken(schema, tables)
            self.assertEqual(rules, function("broken_rules")(schema, tables))
            self.assertEqual(keys, function("broken_keys")(schema, tables))
            self.assertEqual(references, function("broken_references")(schema, tables))
            self.assertIs(rules == keys == references == (), function("keeps")(schema, tables))
            seen.add((bool(rules), bool(keys), bool(references)))
        self.assertEqual(8, len(seen))

    def test_closed(self):
        for schema in self.each():
            for number, (columns, rules, keys, _) in enumerate(schema):
                for some in {some_of(self.chance, columns) for _ in range(3)}:
                    whole = set(some)
                    for _ in range(4):
                        whole |= {one for few, one in rules if set(few) <= whole}
                        whole |= {column for key in keys if set(key) <= whole for column in columns}
                    self.assertEqual(tuple(sorted(whole)), function("closed")(schema, number, some))

    def test_referred_and_referring(self):
        for schema in self.each():
            numbers = range(len(schema))
            found = steps(numbers, lambda one, other: other in [reference[0] for reference in schema[one][3]])
            for number in numbers:
                self.assertEqual(tuple(sorted(found[number])), function("referred")(schema, number))
                back = tuple(other for other in numbers if number in found[other])
                self.assertEqual(back, function("referring")(schema, number))

    def test_led_to_and_leading_to(self):
        for schema in self.each():
            tables = kept_tables(self.chance, schema)
            pairs = [(number, row) for number, rows in enumerate(tables) for row in rows]
            found = steps(pairs, lambda one, other: refers(schema, tables, one, other))
            for pair in pairs:
                self.assertEqual(tuple(sorted(found[pair])), function("led_to")(schema, tables, *pair))
                back = tuple(sorted(other for other in pairs if pair in found[other]))
                self.assertEqual(back, function("leading_to")(schema, tables, *pair))

    def test_with_and_without_lead_back(self):
        for schema in self.each():
            for number, (columns, rules, keys, references) in enumerate(schema):
                for rule in rules:
                    less = function("without_rule")(schema, rule)
                    self.assertEqual(schema, function("with_rule")(less, rule))
                    self.assertTrue(function("is_schema")(less) and rule not in less[number][1])
                for other, names, key in references:
                    less = function("without_reference")(schema, number, other)
                    self.assertEqual(schema, function("with_reference")(less, number, (other, names, key)))
                    with self.assertRaises(error("Unfit")):
                        function("without_key")(schema, other, key)
                referred = [(other, key) for sheet in schema for other, _, key in sheet[3]]
                for key in keys:
                    if (number, key) not in referred:
                        less = function("without_key")(schema, number, key)
                        self.assertEqual(schema, function("with_key")(less, number, key))

    def test_without_sheet(self):
        for schema in self.each():
            for number in range(1, len(schema)):
                if not function("referring")(schema, number):
                    less = function("without_sheet")(schema, number)
                    self.assertTrue(function("is_schema")(less), less)
                    left = tuple(sheet[:3] for sheet in schema[:number] + schema[number + 1:])
                    self.assertEqual(left, tuple(sheet[:3] for sheet in less))

    def test_renamed_back_and_forth(self):
        for schema in self.each():
            columns = function("columns_of")(schema)
            others = self.chance.sample("abcdefghijklmnopqrstuvwxyz", len(columns))
            there = function("renamed")(schema, tuple(zip(columns, others)))
            self.assertTrue(function("is_schema")(there), there)
            self.assertEqual(tuple(sorted(others)), function("columns_of")(there))
            self.assertEqual(schema, function("renamed")(there, tuple(zip(others, columns))))
            for sheet, far in zip(schema, there):
                for (other, names, key), (_, far_names, far_key) in zip(sheet[3], far[3]):
                    told = dict(zip(columns, others))
                    mates = {(told[one], told[two]) for one, two in zip(names, key)}
                    self.assertEqual(mates, set(zip(far_names, far_key)))

    def test_deeds_to_lead_there_in_whatever_order(self):
        for schema in self.each():
            one, other = some_tables(self.chance, schema), some_tables(self.chance, schema)
            deeds = list(function("deeds_to")(schema, one, other))
            self.assertEqual(sorted(set(deeds)), deeds)
            wanted = sum(len(set(mine) ^ set(its)) for mine, its in zip(one, other))
            self.assertEqual(wanted, len(deeds))
            for _ in range(3):
                self.chance.shuffle(deeds)
                self.assertEqual(other, function("after_all")(schema, one, tuple(deeds)))

    def test_after_and_keeps_after(self):
        for schema in self.each():
            tables = kept_tables(self.chance, schema)
            for what, number in itertools.product(("put", "take"), range(len(schema))):
                row = some_row(self.chance, schema, number)
                rows = set(tables[number]) | {row} if what == "put" else set(tables[number]) - {row}
                behind = (*tables[:number], tuple(sorted(rows)), *tables[number + 1:])
                self.assertEqual(behind, function("after")(schema, tables, (what, number, row)))
                kept = function("keeps_after")(schema, tables, (what, number, row))
                self.assertIs(plainly_keeps(schema, behind), kept)

    def test_meetings_and_answers(self):
        for schema in self.each(300):
            tables, question = some_tables(self.chance, schema), some_question(self.chance, schema)
            self.assertTrue(function("is_question")(schema, question), question)
            chosen, links, groups = question
            found, worths = [], {}
            for meeting in itertools.product(*[range(len(tables[number])) for number in chosen]):
                names = met(schema, tables, chosen, meeting)
                if all(names[one] == names[other] for one, other in links):
                    found.append(meeting)
                    told = tuple(names[column] for column in groups)
                    worths.setdefault(told, []).append(tables[0][meeting[0]][-1])
                    self.assertEqual(told, function("shown")(schema, tables, question, meeting))
                else:
                    with self.assertRaises(error("Unfit")):
                        function("shown")(schema, tables, question, meeting)
            self.assertEqual(found, function("meetings")(schema, tables, question))
            for word, amount in (("sum", sum), ("number", len), ("least", min), ("greatest", max)):
                wanted = tuple((told, amount(worths[told])) for told in sorted(worths))
                self.assertEqual(wanted, function("answer")(schema, tables, question, word))

    def test_rows_with(self):
        for schema in self.each():
            tables = some_tables(self.chance, schema)
            for number, rows in enumerate(tables):
                columns = tuple(self.chance.choice(schema[number][0]) for _ in range(self.chance.randint(0, 3)))
                names = tuple(self.chance.choice(NAMES) for _ in columns)
                wanted = tuple(row for row in rows if has(schema, number, row, columns) == list(names))
                self.assertEqual(wanted, function("rows_with")(schema, tables, number, columns, names))


if __name__ == "__main__":
    unittest.main()
