"""Runs of drawn deeds on a Board and at the desk, held against a plain model. [1] [17] [19]"""

import random
import unittest

from helping import (
    WORDS, Case, amounts, done, drawn_question, every_deed, function, in_house, plain_answer, plainly_broken,
        plainly_keeps,
    small_schema, some_deal,
)
from rowsathome.board import Board


class Model:
    """What a Board is, in the plain words of the document; each deed returns the name of an error, or "done"."""

    def __init__(self, schema, deal, houses):
        self.schema, self.houses, self.past = schema, houses, []
        self.deal, self.told, self.tables, self.kept = deal, {}, ((),) * len(schema), {}

    def state(self):
        return self.deal, dict(self.told), self.tables, dict(self.kept)

    def commit(self, deeds):
        behind = done(self.tables, deeds)
        if not plainly_keeps(self.schema, behind):
            return "Unfit"
        self.past.append(self.state())
        self.tables = behind
        return "done"

    def send(self, names, house):
        if not 0 <= house < self.houses:
            return "NoHouse"
        self.past.append(self.state())
        self.told.pop(names, None)
        if house:
            self.told[names] = house
        return "done"

    def part(self, deal):
        self.past.append(self.state())
        self.deal = deal
        return "done"

    def keep(self, name, question, word):
        if name in self.kept:
            return "Known"
        if word not in WORDS:
            return "NoWord"
        self.past.append(self.state())
        self.kept[name] = (question, word)
        return "done"

    def drop(self, name):
        if name not in self.kept:
            return "Unfit"
        self.past.append(self.state())
        del self.kept[name]
        return "done"

    def undo(self):
        if not self.past:
            return "NothingDone"
        self.deal, self.told, self.tables, self.kept = self.past.pop()
        return "done"

    def dealing(self):
        return (self.houses, tuple(sorted(self.told.items())))

    def house(self, number):
        return in_house(self.schema, self.tables, self.deal, self.dealing(), number)

    def astray(self):
        return tuple(sorted(
            (house, *pair) for house in range(self.houses) for pair in plainly_broken(self.schema, self.house(house))[2]
        ))

    def answer(self, name):
        question, word = self.kept[name]
        return plain_answer(self.schema, self.tables, question, word)

    def by_houses(self, name):
        question, word = self.kept[name]
        parts = [plain_answer(self.schema, self.house(house), question, word) for house in range(self.houses)]
        return amounts("sum" if word == "number" else word, [pair for part in parts for pair in part])

    def right(self):
        return tuple(name for name in sorted(self.kept) if self.answer(name) == self.by_houses(name))

    def changed(self):
        before = self.past[-1][2] if self.past else self.tables
        return tuple(
            name for name in sorted(self.kept)
            if plain_answer(self.schema, before, *self.kept[name]) != self.answer(name)
        )


def together(names):
    return "+".join(names) or "*"


def words(parts):
    return " ".join(parts) or "-"


def line_of(rows):
    return " / ".join(" ".join(map(str, row)) for row in rows) or "-"


def deal_words(deal):
    return " ".join("-" if part is None else together(part) for part in deal)


def deed_words(deed):
    return f"{deed[0]} {deed[1]} {' '.join(map(str, deed[2]))}"


def question_words(question):
    chosen, links, groups = question
    return " / ".join((words(map(str, chosen)), words("=".join(link) for link in links), words(groups)))


class Runs(Case):
    def setUp(self):
        self.chance = random.Random(17)

    def some_step(self, model):
        """Return the name of a deed, its arguments, and its request."""
        schema, pick = model.schema, self.chance.choice
        what = pick(("put",) * 6 + ("take",) * 2 + ("commit", "commit", "send", "send", "part", "keep", "keep", "drop",
            "undo"))
        if what in ("put", "take", "commit"):
            deeds = []
            for _ in range(1 if what != "commit" else self.chance.randint(1, 4)):
                kind = (what if what != "commit" else pick(("put", "put", "take")), self.chance.randrange(len(schema)))
                deeds.append(pick(every_deed(schema, kind)))
            text = " / ".join(deed_words(deed) for deed in deeds)
            return "commit", (tuple(deeds),), text if what != "commit" else "commit " + text
        if what == "send":
            names, house = pick(((), ("a",), ("b",), ("a", "b"), ("b", "a"))), pick((0, 0, 1, 1, 2, -1, 3))
            return what, (names, house), f"send {together(names)} {house}"
        if what == "part":
            deal = some_deal(self.chance, schema)
            return what, (deal,), "part " + deal_words(deal)
        if what == "keep":
            name, question, word = pick("abc"), drawn_question(self.chance, schema), pick((*WORDS, "most"))
            return what, (name, question, word), f"keep {name} {word} {question_words(question)}"
        if what == "drop":
            name = pick("abcd")
            return what, (name,), "drop " + name
        return what, (), what

    def look(self, board, model):
        """Look whether the Board shows all as the model does, and return requests with their replies."""
        schema, dealing = model.schema, model.dealing()
        kept = tuple((name, *model.kept[name]) for name in sorted(model.kept))
        houses = [model.house(house) for house in range(model.houses)]
        answers = {name: (model.answer(name), model.by_houses(name)) for name in model.kept}
        waits = function("waits")(schema, model.deal)
        home = tuple(name for name, *asked in kept if function("is_told_at_home")(schema, *asked, model.deal))
        wanted = (schema, model.deal, dealing, model.tables, kept, model.astray(), model.right(), home,
            model.changed(), waits)
        given = (
            board.schema(), board.deal(), board.dealing(), board.tables(), board.kept(), board.astray(), board.right(),
            board.at_home(), board.changed(), board.waits(),
        )
        self.assertEqual(repr(wanted), repr(given))
        self.assertEqual(houses, [board.house(house) for house in range(model.houses)])
        self.assertEqual(answers, {name: (board.answer(name), board.by_houses(name)) for name in model.kept})
        self.assertEqual(len(model.past), len(board))
        self.assertTrue(plainly_keeps(schema, board.tables()))
        # What is told FOR ALL TABLES and DEALINGS is so here.
        self.assertLessEqual(set(home), set(model.right()))
        return self.requests(model, kept, houses, answers, waits, home)

    def requests(self, model, kept, houses, answers, waits, home):
        numbers = range(-1, len(model.schema) + 1)
        found = [(f"sheet {number}", self.rows(model.tables, number)) for number in numbers]
        for house in range(-1, model.houses + 1):
            there = 0 <= house < model.houses
            found.extend(
                (f"house {house} {number}", self.rows(houses[house], number) if there else "refused NoHouse")
                for number in numbers
            )
        for at, word in enumerate(("answer", "houses")):
            for name in "abcd":
                told = answers[name][at] if name in answers else None
                pairs = words(f"{together(names)}:{amount}" for names, amount in told or ())
                found.append((f"{word} {name}", "refused Unfit" if told is None else pairs))
        told = words(together(names) + f":{house}" for names, house in model.dealing()[1])
        return [
            *found, ("right", words(model.right())), ("home", words(home)), ("changed", words(model.changed())),
            ("kept", words(name for name, _, _ in kept)), ("deal", deal_words(model.deal)),
            ("dealing", f"{model.houses} / {told}"), ("deeds", str(len(model.past))),
            ("astray", words(f"{house}:{number}>{other}" for house, number, other in model.astray())),
            ("waits", words("-".join(f"{what}{number}" for what, number in pair) for pair in waits)),
        ]

    def rows(self, tables, number):
        return line_of(tables[number]) if 0 <= number < len(tables) else "refused NoSheet"

    def test_runs(self):
        told = {}
        for _ in range(100):
            schema, houses = small_schema(self.chance), self.chance.randint(1, 3)
            deal = some_deal(self.chance, schema)
            board, model, requests = Board(schema, deal, houses), Model(schema, deal, houses), []
            for _ in range(25):
                name, arguments, request = self.some_step(model)
                reply = getattr(model, name)(*arguments)
                told[name, reply] = told.get((name, reply), 0) + 1
                if reply == "done":
                    self.assertIsNone(getattr(board, name)(*arguments))
                else:
                    with self.assertRaises((LookupError, ValueError)) as caught:
                        getattr(board, name)(*arguments)
                    self.assertEqual(reply, type(caught.exception).__name__)
                    reply = "refused " + reply
                requests.append((request, reply))
                requests.extend(self.chance.sample(self.look(board, model), 3))
            self.assertEqual(board, board.twin())
            requests.extend(self.look(board, model))
            self.at_the_desk(schema, deal, houses, requests)
        self.assertGreater(len(told), 10, told)
        self.assertGreater(min(told.values()), 1, told)

    def at_the_desk(self, schema, deal, houses, requests):
        for line, _ in requests:
            self.assertIs(True, function("is_request")(schema, line), line)
        text = "\n".join(line for line, _ in requests)
        self.assertEqual([reply for _, reply in requests], function("replies")(schema, deal, houses, text), text)

    def test_what_is_told_for_all_tables_holds_at_each_moment(self):
        """PROMISES that hold have no PAPER in any state of a Board, and their PAPERS are states of another one."""
        held = 0
        for _ in range(60):
            schema, houses = small_schema(self.chance), self.chance.randint(1, 3)
            deal, question = some_deal(self.chance, schema), drawn_question(self.chance, schema)
            columns = schema[0][0]
            promises = [
                ("rule", ((column,), one)) for column in columns for one in columns if column != one
            ] + [("key", 0, (column,)) for column in columns] + [
                (end, question, (number,)) for end in ("least", "most") for number in question[0]
            ] + [("same", question, drawn_question(self.chance, schema), word) for word in WORDS]
            homes = [("told", question, word, deal) for word in WORDS] + [("groups", question, deal)]
            board, model = Board(schema, deal, houses), Model(schema, deal, houses)
            for _ in range(15):
                name, arguments, _ = self.some_step(model)
                if name != "part" and getattr(model, name)(*arguments) == "done":
                    getattr(board, name)(*arguments)
                    for promise in (*promises, *homes):
                        tables = board.tables()
                        thing = (tables, board.dealing()) if promise in homes else tables
                        if function("holds")(schema, promise):
                            held += 1
                            self.assertIs(False, function("is_paper")(schema, promise, thing))
            for promise in promises:
                paper = function("a_paper")(schema, promise)
                if paper is not None:
                    board.merge(paper, paper)
                    self.assertIs(True, function("is_paper")(schema, promise, board.tables()))
        self.assertGreater(held, 500)

    def test_what_was_done_in_other_ways_looks_the_same(self):
        for _ in range(40):
            schema, houses = small_schema(self.chance), self.chance.randint(1, 3)
            deal = some_deal(self.chance, schema)
            board, model = Board(schema, deal, houses), Model(schema, deal, houses)
            for _ in range(12):
                name, arguments, _ = self.some_step(model)
                if getattr(model, name)(*arguments) == "done":
                    getattr(board, name)(*arguments)
            other = Board(schema, model.deal, houses)
            for name, question, word in reversed(board.kept()):
                other.keep(name, question, word)
            for names, house in reversed(board.dealing()[1]):
                other.send(names, house)
            other.merge(board.tables(), board.tables())
            self.assertEqual(board, other)
            for name in ("deal", "dealing", "tables", "kept", "waits", "astray", "right", "at_home"):
                self.assertEqual(repr(getattr(board, name)()), repr(getattr(other, name)()))


if __name__ == "__main__":
    unittest.main()
