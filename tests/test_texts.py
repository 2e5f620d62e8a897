"""Texts written and read: edges and wrong texts. [2] [18]"""

import random
import unittest

from helping import (
    CHAIN, SHOP, Case, function, kept_tables, some_deal, some_dealing, some_question, some_row, some_schema,
        some_tables,
)

SHORT = (
    (("cust", "oid"), ((("cust", "oid"), "cust"),), (("oid",),), ((1, ("cust",), ("name",)),)),
    (("city", "name"), (), ((), ("name",)), ()),
)
LINE = "city name / - / * name / -"


class Written(Case):
    def test_schemas(self):
        for schema, text in (
            (((("a",), (), (), ()),), "a / - / - / -"),
            (((("a", "b"), (((), "a"), ((), "b"), (("a",), "a")), ((), ("a", "b")), ()),),
            "a b / *>a *>b a>a / * a+b / -"),
            (
                ((("a", "b"), (), (), ((1, (), ()), (2, ("b", "a"), ("d", "e")))), (("c",), (), ((),), ()),
                 (("d", "e"), (), (("d", "e"),), ())),
                "a b / - / - / 1:*=* 2:b+a=d+e\nc / - / * / -\nd e / - / d+e / -",
            ),
            (CHAIN, (
                "a b / a>a a>b / - / 1:b+a=d+e 3:*=*\nc d e / *>c / c d+e / 2:c=f\n"
                "f g / - / f g / 3:g=h\nh / - / * h / -"
            )),
        ):
            self.gives(text, "schema_text", schema)
            self.gives(schema, "read_schema", text)

    def test_tables(self):
        worths = (("a", "b", -10 ** 30), ("a", "b", 0), ("a", "b", 10))
        for tables, text in (
            (((), ()), "-\n-"), ((worths, ()), "a b -1000000000000000000000000000000 / a b 0 / a b 10\n-"),
            (((), (("x", "y"), ("x", "z"))), "-\nx y / x z"),
        ):
            self.gives(text, "tables_text", tables)
            self.gives(tables, "read_tables", SHORT, text)

    def test_questions(self):
        for question, text in (
            (((0,), (), ()), "0 / - / -"), (((0, 1), (), ("city", "oid")), "0 1 / - / city oid"),
            (((0, 1, 2), (("city", "item"), ("cust", "name")), ()), "0 1 2 / city=item cust=name / -"),
        ):
            self.gives(text, "question_text", question)
            self.gives(question, "read_question", SHOP, text)

    def test_deals_and_dealings(self):
        for deal, text in (
            ((None, None, None), "- - -"), (((), ("name", "name"), ("kind", "good")), "* name+name kind+good"),
        ):
            self.gives(text, "deal_text", deal)
            self.gives(deal, "read_deal", SHOP, text)
        for dealing, text in (
            ((1, ()), "1 / -"), ((10 ** 30, ()), f"{10 ** 30} / -"),
            ((12, (((), 0), (("a",), 11), (("a", "b"), 3))), "12 / *:0 a:11 a+b:3"),
        ):
            self.gives(text, "dealing_text", dealing)
            self.gives(dealing, "read_dealing", text)

    def test_numbers(self):
        for many in (1, 2, 17, 63, 64, 65, 127, 128, 129, 390):
            for number in (10 ** many, 10 ** many - 1, -10 ** many, 7 - 10 ** many, 12345678901 ** (many // 11)):
                deeds = (("take", 0, ("a", "b", "c", number)),)
                self.gives(f"take 0 a b c {number}", "deeds_text", deeds)
                self.gives(deeds, "read_deeds", SHOP, f"take 0 a b c {number}")

    def test_deeds(self):
        deed = ("put", 0, ("a", "b", "c", -1))
        for deeds, text in (
            ((), ""), ((deed,), "put 0 a b c -1"), ((deed, deed), "put 0 a b c -1\nput 0 a b c -1"),
            ((("take", 2, ("put", "take")), deed), "take 2 put take\nput 0 a b c -1"),
        ):
            self.gives(text, "deeds_text", deeds)
            self.gives(deeds, "read_deeds", SHOP, text)


class Wrong(Case):
    def bad_lines(self, name, ahead, texts):
        for text, number in texts:
            self.refuses("BadLine", {"number": number}, name, *ahead, text)

    def bad_texts(self, name, ahead, texts):
        for text, piece in texts:
            self.refuses("BadText", {"piece": piece}, name, *ahead, text)

    def test_schemas(self):
        lines = [
            "", " ", "-", "- / - / - / -", "a", "a / -", "a / - / -", "a / - / - / - / -", "a/-/-/-", "a / - / - / -\n",
            "a  b / - / - / -", " a / - / - / -", "a / - / - / - ", "a / - /  / -", "a / - / - / ", " / - / - / -",
            "A / - / - / -", "abcdefghi / - / - / -", "b a / - / - / -", "a a / - / - / -", "a+b / - / - / -",
                "a / - - / - / -",
            "a b / a / - / -", "a b / a> / - / -", "a b / >a / - / -", "a b / a>b>a / - / -", "a b / ->a / - / -",
            "a b / a>c / - / -", "a b / c>a / - / -", "a b / b+a>a / - / -", "a b / a+a>a / - / -",
                "a b / a>b a>a / - / -",
            "a b / a>b a>b / - / -", "a b / a+>b / - / -", "a b / *+a>b / - / -", "a b / a>* / - / -",
                "a / *>a *>a / - / -",
            "a b / - / c / -", "a b / - / b+a / -", "a b / - / b a / -", "a b / - / a a / -", "a b / - / a * / -",
            "a b / - / ** / -", "a b / - / a+a / -", "a b / - / a  b / -", "a b / - / - a / -",
            "a b / - / - / 1", "a b / - / - / 1:a", "a b / - / - / 1:a=", "a b / - / - / :a=c", "a b / - / - / 1=a:c",
            "a b / - / - / 01:a=c", "a b / - / - / -1:a=c", "a b / - / - / +1:a=c", "a b / - / - / 1:c=c",
                "a b / - / - / 1:a+a=c+d",
            "a b / - / - / 1:a=c+d", "a b / - / - / 1:a+b=c", "a b / - / - / 1:a+b=d+c", "a b / - / - / 1:a+b=c+c",
            "a b / - / - / 1:*=c", "a b / - / - / 1:a=*", "a b / - / - / 1:a=C", "a b / - / - / 1:a=c=c",
                "a b / - / - / 1:a:c=c",
            "a b / - / - / -0:*=*", "a b / - / - / x:a=c",
        ]
        for line in lines:
            number = line.count("\n")
            self.bad_lines("read_schema", (), [(line, number), ("x / - / - / -\n" + line, number + 1)])
            # The first of several bad lines decides, also if its REFERENCES alone are bad.
            self.bad_lines("read_schema", (), [(f"{line}\nx", number)])
        # A COLUMN that stands ahead already; the first of several bad lines.
        self.bad_lines("read_schema", (),
            [("a b / - / - / -\nb c / - / - / -", 1), ("a / - / - / -\nb\nc\nd / - / - / -", 1)])

    def test_schemas_whose_references_are_wrong(self):
        other = "c d / - / c c+d / -"
        good = "a b / - / - / 1:a=c\n"
        self.gives(1, "sheet_of", function("read_schema")(good + other), "c")
        for references, number in (
            ("0:a=c", 0), ("2:a=c", 0), ("1:a=d", 0), ("1:*=*", 0), ("1:a=c 1:a=c", 0), ("1:a=c 1:b=c", 0),
            ("1:a=x", 0), ("2:a=e 1:a=c", 0), ("1000000:a=c", 0),
        ):
            text = f"a b / - / - / {references}\n{other}\ne / - / e / -"
            self.bad_lines("read_schema", (), [(text, number)])
        # A SHEET ahead, itself; a bad line behind decides ahead of them.
        back = "a / - / a / -\nb / - / b / {}\nc / - / - / -"
        for reference in ("0:b=a", "1:b=b", "3:b=c"):
            self.bad_lines("read_schema", (),
                [(back.format(reference), 1), (back.format(reference) + "\nc / - / - / -", 3)])
        both = "a / - / - / 2:a=x\nb / - / - / 2:b=c\nc / - / - / -"
        self.bad_lines("read_schema", (), [(both, 0), (both.replace("2:a=x", "-"), 1)])

    def test_tables(self):
        self.bad_lines("read_tables", (SHORT,), [
            ("", 0), ("-", 1), ("-\n-\n-", 2), ("-\n-\n", 2), ("-\n", 1), ("\n-", 0), (" -\n-", 0), ("- / -\n-", 0),
            ("a b\n-", 0), ("a b x\n-", 0), ("a b 01\n-", 0), ("a b +1\n-", 0), ("a b -0\n-", 0), ("a b 00\n-", 0),
            ("a b --1\n-", 0), ("a b 1.\n-", 0), ("a b 1 \n-", 0), ("a  b 1\n-", 0), ("a b c 1\n-", 0), ("a B 1\n-", 0),
            ("a b 2 / a b 1\n-", 0), ("a b 1 / a b 1\n-", 0), ("a b 10 / a b 9\n-", 0), ("a b 1 /a c 1\n-", 0),
            ("a b 1 / \n-", 0), ("a b 1 / -\n-", 0), ("-\na", 1), ("-\na b 1", 1), ("-\na b c", 1), ("-\nb a / a b", 1),
            ("-\na b / a b", 1), ("-\na -", 1), ("-\n", 1), ("a b 1", 1), ("x\ny\nz", 0), ("-\nx\nz", 1),
            ("a b -\n-", 0),
        ])
        self.gives((((("a", "b", 9), ("a", "b", 10))), ()), "read_tables", SHORT, "a b 9 / a b 10\n-")

    def test_questions(self):
        self.bad_texts("read_question", (SHOP,), [
            ("", 0), ("-", 0), ("- / - / -", 0), ("1 / - / -", 0), ("0 0 / - / -", 0), ("1 0 / - / -", 0),
            ("0 3 / - / -", 0),
            ("0 -1 / - / -", 0), ("00 / - / -", 0), ("0  1 / - / -", 0), ("0 01 / - / -", 0), (" 0 / - / -", 0),
            ("0,1 / - / -", 0),
            ("0", 1), ("0 / -", 2), ("0 1 / cust=name", 2), ("0 / - / - / -", 3), ("0 / - / - / x", 3), ("0 /-/ -", 0),
            ("0 1 / name=cust / -", 1), ("0 1 / cust=item / -", 1), ("0 1 / cust=good / -", 1), ("0 1 / cust / -", 1),
            ("0 1 / cust=name=oid / -", 1), ("0 1 / cust=name city=oid / -", 1), ("0 1 / cust=name cust=name / -", 1),
            ("0 / cust=name / -", 1), ("0 1 / - - / -", 1), ("0 1 /  / -", 1), ("0 1 / * / -", 1),
            ("0 1 / cust=x / -", 1),
            ("0 / - / city", 2), ("0 1 / - / oid city", 2), ("0 1 / - / city city", 2), ("0 1 / - / ", 2),
            ("0 1 / - / x", 2),
            ("0 1 / - / city+oid", 2), ("0 1 / - / -\n", 2), ("0 1 / x / x / x", 1), ("0 1 / - / *", 2), ("9 / x", 0),
            ("0 / x", 1),
        ])

    def test_deals(self):
        self.bad_texts("read_deal", (SHOP,), [
            ("", 0), ("-", 1), ("- -", 2), ("- - - -", 3), ("- - - ", 3), (" - - -", 0), ("-  - -", 1), ("- - x", 2),
            ("name - -", 0),
            ("- cust -", 1), ("cust+ - -", 0), ("+cust - -", 0), ("cust+name - -", 0), ("*+cust - -", 0), ("** - -", 0),
            ("- -\n-", 1), ("cust / name", 1), ("- - -\n", 2), ("x x x x", 0), ("CUST - -", 0), ("- * - x", 3),
        ])

    def test_dealings(self):
        self.bad_texts("read_dealing", (), [
            ("", 0), ("0 / -", 0), ("-1 / -", 0), ("01 / -", 0), ("+1 / -", 0), ("- / -", 0), ("1 1 / -", 0),
            ("x / x", 0),
            ("1", 1), ("2", 1), ("1 / - / -", 2), ("1 / - / ", 2), ("1 / ", 1), ("1 /-", 0), ("2 / a", 1),
            ("2 / a:", 1), ("2 / :1", 1),
            ("2 / a:2", 1), ("2 / a:-1", 1), ("2 / a:01", 1), ("2 / a:1 a:1", 1), ("2 / a:0 a:1", 1),
            ("2 / b:1 a:1", 1),
            ("2 / a:1  b:1", 1), ("2 / A:1", 1), ("2 / a+:1", 1), ("2 / a:b:1", 1), ("2 / -:1", 1), ("2 / *:1 *:0", 1),
            ("2 / a:1 *:1", 1), ("1 / -\n", 1), ("2 / a:1 / b:1", 2), ("2 / x / x", 1),
        ])

    def test_deeds(self):
        good = "put 0 a b c 1"
        for line in (
            "", " ", "-", "put", "put 0", "put 0 a b c", "put 0 a b c d", "put 0 a b c 01", "put 0 a b c -0",
                "put 0 a b c +1",
            "put 0 a b c 1 ", " put 0 a b c 1", "put  0 a b c 1", "Put 0 a b c 1", "puts 0 a b c 1", "put 00 a b c 1",
            "put -0 a b c 1", "put 3 a b", "put -1 a b", "put 1 a b", "put 1 a b c 1", "put 1 a b C", "take 2 a",
                "take 2 a b c",
            "take 2 a  b", "take x a b", "put 2 a b / put 2 a b", "commit put 2 a b", "put 2 a -",
        ):
            self.bad_lines("read_deeds", (SHOP,),
                [(f"{good}\n{line}", 1), (f"{good}\n{good}\n{line}\n{good}\n{line}", 2)])
            if line:
                self.bad_lines("read_deeds", (SHOP,), [(line, 0)])
        self.bad_lines("read_deeds", (SHOP,), [("\n", 0), (good + "\n", 1), ("\n" + good, 0)])


class Drawn(Case):
    def setUp(self):
        self.chance = random.Random(18)

    def values(self, schema):
        """Yield the names of what writes and reads, with what comes ahead of the text, and drawn values."""
        deal = some_deal(self.chance, schema)
        deeds = []
        for _ in range(self.chance.randint(0, 3)):
            number = self.chance.randrange(len(schema))
            deeds.append((self.chance.choice(("put", "take")), number, some_row(self.chance, schema, number)))
        yield "schema", (), schema
        yield "tables", (schema,), some_tables(self.chance, schema)
        yield "tables", (schema,), kept_tables(self.chance, schema)
        yield "question", (schema,), some_question(self.chance, schema)
        yield "deal", (schema,), deal
        yield "dealing", (), some_dealing(self.chance, schema, deal, ("a", "b", "cc"))
        yield "deeds", (schema,), tuple(deeds)

    def test_what_is_written_is_read_back(self):
        for _ in range(150):
            schema = some_schema(self.chance)
            for what, ahead, value in self.values(schema):
                text = function(what + "_text")(value)
                self.assertEqual(repr(value), repr(function("read_" + what)(*ahead, text)), text)

    def spoiled(self, text):
        """Return the text with a letter, a word, a part or a line more, less or elsewhere."""
        sign = self.chance.choice(("", " ", " / ", "\n"))
        if not sign:
            at = self.chance.randrange(len(text) + 1)
            return text[:at] + self.chance.choice(("", " ", "a", "-", "*", "+", "0", "\n", "/")) + text[at + 1:]
        pieces = text.split(sign)
        piece = self.chance.choice(pieces)
        if self.chance.random() < 0.5:
            pieces.remove(piece)
        pieces.insert(self.chance.randint(0, len(pieces)), self.chance.choice([piece, *pieces]))
        return sign.join(pieces)

    def test_what_reads_is_written_just_so(self):
        read = refused = 0
        for _ in range(300):
            schema = some_schema(self.chance)
            for what, ahead, value in self.values(schema):
                text = self.spoiled(function(what + "_text")(value))
                try:
                    told = function("read_" + what)(*ahead, text)
                except ValueError as error:
                    refused += 1
                    self.is_refused(what, ahead, text, error)
                else:
                    read += 1
                    self.assertEqual(text, function(what + "_text")(told))
                    self.is_such(what, ahead, told)
        self.assertGreater(read, 200)
        self.assertGreater(refused, 500)

    def is_such(self, what, ahead, told):
        if what == "deeds":
            self.assertTrue(all(function("is_deed")(*ahead, deed) for deed in told))
        else:
            self.assertIs(True, function("is_" + what)(*ahead, told), told)

    def is_refused(self, what, ahead, text, error):
        """Look whether what stands ahead of the place that is told would be read, if all behind were well."""
        if what in ("schema", "tables", "deeds"):
            self.assertEqual("BadLine", type(error).__name__)
            lines = text.split("\n")
            self.assertTrue(0 <= error.number <= len(lines))
            if what == "deeds":
                self.assertEqual(error.number, len(function("read_deeds")(*ahead, "\n".join(lines[:error.number]))))
            if what == "tables":
                self.assertLessEqual(error.number, len(ahead[0]))
                rest = ["-"] * (len(ahead[0]) - error.number)
                function("read_tables")(*ahead, "\n".join([*lines[:error.number], *rest]))
        else:
            self.assertEqual("BadText", type(error).__name__)
            pieces = text.split(" " if what == "deal" else " / ")
            self.assertTrue(0 <= error.piece <= len(pieces))
            ends = {"question": ["0", "-", "-"], "deal": ["-"] * 4, "dealing": ["1", "-"]}[what]
            many = len(ahead[0]) if what == "deal" else len(ends)
            ends = ends[:many]
            if error.piece <= many:
                function("read_" + what)(*ahead, (" " if what == "deal" else " / ").join(
                    [*pieces[:error.piece], *ends[error.piece:]]))


if __name__ == "__main__":
    unittest.main()
