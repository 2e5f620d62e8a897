"""Requests and replies: edges and wrong inputs. [2] [19]"""

import unittest

from helping import SHOP, STRANGE, WORDS, Case, function

BY_NAME = (("cust",), ("name",), None)
ALONE = ("undo", "right", "home", "changed", "kept", "astray", "waits", "deal", "dealing", "deeds")


class Requests(Case):
    def test_requests(self):
        self.is_such("is_request", SHOP, things=(
            *ALONE, "put 0 a b c -1", "take 1 put take sheet", "put 2 a b", f"put 0 a b c {10 ** 40}",
                "commit put 2 a b",
            "commit take 2 a b / put 0 a b c 0 / take 2 a b", "send a 0", "send * -7", "send a+b+c+d 12",
                f"send a {10 ** 40}",
            "part - - -", "part * name+name kind+good", "keep a sum 0 / - / -",
                "keep keep most 0 1 2 / cust=name / city",
            "keep abcdefgh greatest 0 / - / oid", "drop drop", "sheet 0", "sheet -1", "sheet 99", "house 0 0",
                "house -3 7",
            "answer a", "houses abcdefgh",
        ))

    def test_other_lines(self):
        lines = [word + end for word in ALONE for end in (" ", " a", " 0", "\n")] + [" " + word for word in ALONE]
        lines += [word.upper() for word in ALONE] + ["", " ", "-", "look", "at_home", "by_houses", "tables", "merge",
            "twin"]
        lines += ["put", "put 0", "put 0 a b c", "put 3 a b", "put 2 a b c", "put 2  a b", "put 02 a b", "put 2 a B"]
        lines += ["take 0 a b c 00", "take 0 a b c +1", "take -1 a b", "take 2 a b ", "take 2 a b / take 2 a b",
            "puts 2 a b"]
        lines += ["commit", "commit ", "commit -", "commit put 2 a", "commit put 2 a b / ",
            "commit put 2 a b /put 2 a b"]
        lines += ["commit put 2 a b / undo", "commit put 2 a b / / put 2 a b", "commit  put 2 a b",
            "commit commit put 2 a b"]
        lines += ["commit put 2 a b\nput 2 a b", "commit put 2 a b / send a 0"]
        lines += ["send", "send a", "send 0", "send a b 0", "send a+ 0", "send a 00", "send a -0", "send a +1",
            "send - 0"]
        lines += ["send  0", "send a  0", "send a 0 ", "send A 0", "send a x", "send a+*+b 0", "send a 1 1",
            "send a\n0"]
        lines += ["part", "part ", "part -", "part - -", "part - - - -", "part cust - - ", "part name - -",
            "part  - - -"]
        lines += ["part -,-,-", "part - - x", "part cust / name / -"]
        lines += ["keep", "keep a", "keep a sum", "keep a sum 0", "keep a sum 0 / -", "keep a sum 1 / - / -",
            "keep a sum "]
        lines += ["keep a  0 / - / -", "keep  sum 0 / - / -", "keep A sum 0 / - / -", "keep a Sum 0 / - / -",
            "keep a 0 / - / -"]
        lines += ["keep a sum 0 / - / - / -", "keep a sum  0 / - / -", "keep abcdefghi sum 0 / - / -",
            "keep a abcdefghi 0 / - / -"]
        lines += ["keep a+b sum 0 / - / -", "keep a * 0 / - / -", "keep a sum 0 / cust=name / -",
            "keep - sum 0 / - / -"]
        lines += ["drop", "drop ", "drop a b", "drop A", "drop *", "drop -", "drop a+b", "drop abcdefghi", "drop  a",
            "drop a "]
        lines += ["sheet", "sheet ", "sheet a", "sheet 0 0", "sheet 00", "sheet +1", "sheet -0", "sheet  0",
            "sheet 0 ", "sheet -"]
        lines += ["house", "house 0", "house 0 0 0", "house 0  0", "house a 0", "house 0 a", "house 00 0",
            "house 0 -0", "house  0"]
        lines += ["answer", "answer ", "answer a b", "answer A", "houses", "houses a b", "houses 0", "answer -",
            "answer *"]
        lines += ["look a 0", "sends a 1", "look 0", "look 0 0", "look a", "look - - -", "look put 2 a b", "sheet a 0",
            "undo a 0"]
        self.is_not_such("is_request", SHOP, things=lines)
        for line in lines:
            number = line.count("\n")
            if line and number == 0:
                self.refuses("BadLine", {"number": 0}, "replies", SHOP, BY_NAME, 1, line)
            if number == 0:
                self.refuses("BadLine", {"number": 2}, "replies", SHOP, BY_NAME, 1, f"deeds\nundo\n{line}\nlook")

    def test_numbers_of_any_length(self):
        for many in (63, 64, 65, 128, 5000):
            digits = "9" * many
            self.is_such("is_request", SHOP, things=(f"sheet {digits}", f"send a -{digits}", f"take 0 a b c {digits}"))
            for line in (f"sheet 0{digits}", f"house 0 -0{digits}", f"put 0 a b c {digits}-", f"put {digits} a b"):
                self.gives(False, "is_request", SHOP, line)

    def test_things(self):
        for thing in (*STRANGE, ["undo"], ("undo",), ("put", 2, ("a", "b")), ["put 2 a b"]):
            self.gives(False, "is_request", SHOP, thing)

    def test_bad_lines_ahead_of_all_else(self):
        for text, number in (
            ("\n", 0), ("deeds\n", 1), ("\ndeeds", 0), ("deeds\n\ndeeds", 1), ("put 2 a b\nlook\nlook", 1),
            ("sheet 9\nundo\nx", 2),
        ):
            self.refuses("BadLine", {"number": number}, "replies", SHOP, BY_NAME, 2, text)


class Replies(Case):
    def replies(self, deal, houses, pairs):
        self.gives([reply for _, reply in pairs], "replies", SHOP, deal, houses, "\n".join(line for line, _ in pairs))

    def test_a_new_board(self):
        self.replies(BY_NAME, 3, [
            ("undo", "refused NothingDone"), ("right", "-"), ("home", "-"), ("changed", "-"), ("kept", "-"),
            ("astray", "-"),
            ("deal", "cust name -"), ("dealing", "3 / -"), ("deeds", "0"), ("sheet 0", "-"), ("sheet 2", "-"),
            ("sheet 3", "refused NoSheet"), ("sheet -1", "refused NoSheet"), ("house 2 2", "-"),
            ("house 3 2", "refused NoHouse"),
            ("house 2 3", "refused NoSheet"), ("house -1 -1", "refused NoHouse"), ("answer a", "refused Unfit"),
            ("houses a", "refused Unfit"), ("drop a", "refused Unfit"),
        ])
        self.replies(((), (), ()), 1, [("waits", "-"), ("deal", "* * *"), ("undo", "refused NothingDone")])

    def test_a_line_feed_in_the_end_begins_one_more(self):
        self.gives(["0"], "replies", SHOP, BY_NAME, 1, "deeds")
        self.refuses("BadLine", {"number": 1}, "replies", SHOP, BY_NAME, 1, "deeds\n")
        self.gives([], "replies", SHOP, BY_NAME, 1, "")

    def test_deeds_that_are_refused_change_nothing(self):
        self.replies(BY_NAME, 2, [
            ("put 0 ann tea a 5", "refused Unfit"), ("deeds", "0"),
            ("commit put 0 ann tea a 5 / put 1 rome it ann", "refused Unfit"),
            ("commit put 0 ann tea a 5 / put 1 rome it ann / put 2 tea food", "done"), ("deeds", "1"),
            ("take 1 rome it ann", "refused Unfit"), ("sheet 1", "rome it ann"), ("take 1 rome it bob", "done"),
            ("put 0 ann tea a 5", "done"), ("put 0 ann tea a 6", "refused Unfit"), ("deeds", "3"),
            ("send bob 2", "refused NoHouse"),
            ("send bob -1", "refused NoHouse"), ("dealing", "2 / -"), ("send bob 1", "done"), ("send * 1", "done"),
            ("send a+b 1", "done"), ("dealing", "2 / *:1 a+b:1 bob:1"), ("send bob 0", "done"),
            ("dealing", "2 / *:1 a+b:1"),
            ("deeds", "7"), ("undo", "done"), ("dealing", "2 / *:1 a+b:1 bob:1"), ("deeds", "6"),
        ])

    def test_keep_drop_and_keep_again(self):
        self.replies(BY_NAME, 1, [
            ("keep b sum 0 / - / -", "done"), ("keep a least 0 / - / -", "done"), ("kept", "a b"),
            ("keep a most 0 / - / -", "refused Known"), ("keep c most 0 / - / -", "refused NoWord"), ("drop a", "done"),
            ("drop a", "refused Unfit"), ("kept", "b"), ("keep a number 0 1 / cust=name / city land", "done"),
            ("kept", "a b"),
            ("answer a", "-"), ("undo", "done"), ("undo", "done"), ("answer a", "-"), ("kept", "a b"), ("right", "a b"),
            ("home", "a b"), ("undo", "done"), ("undo", "done"), ("undo", "refused NothingDone"), ("kept", "-"),
        ])

    def test_answers_without_and_with_several_groups(self):
        put = "commit put 2 tea food / put 1 rome it ann / put 0 ann tea a 5 / put 0 ann tea b -7"
        pairs = [(put, "done")]
        for name, word, none, several in (
            ("a", "sum", "*:-2", "rome+a:5 rome+b:-7"), ("b", "number", "*:2", "rome+a:1 rome+b:1"),
            ("c", "least", "*:-7", "rome+a:5 rome+b:-7"), ("d", "greatest", "*:5", "rome+a:5 rome+b:-7"),
        ):
            pairs += [(f"keep {name} {word} 0 / - / -", "done"), (f"answer {name}", none), (f"houses {name}", none),
                ("undo", "done")]
            pairs += [(f"keep {name} {word} 0 1 / cust=name / city oid", "done"), (f"answer {name}", several)]
            pairs += [(f"houses {name}", several), ("changed", "-"), ("drop " + name, "done")]
        self.assertEqual(4, len(WORDS))
        self.replies(BY_NAME, 2, pairs)

    def test_rows(self):
        put = "commit put 2 tea food / put 2 cup ware / put 1 rome it ann / put 0 ann tea a 5 / put 0 ann cup b -7"
        self.replies(BY_NAME, 2, [
            (put, "done"), ("send ann 1", "done"), ("sheet 0", "ann cup b -7 / ann tea a 5"), ("house 0 0", "-"),
            ("house 1 0", "ann cup b -7 / ann tea a 5"), ("house 0 2", "cup ware / tea food"),
            ("house 1 2", "cup ware / tea food"),
            ("part oid - kind", "done"), ("house 0 0", "ann cup b -7 / ann tea a 5"), ("house 1 0", "-"),
            ("send food 1", "done"),
            ("house 0 2", "cup ware"), ("house 1 2", "tea food"), ("astray", "0:0>2"),
        ])

    def test_waits(self):
        self.replies((None, None, None), 1, [
            ("waits", "put0-put0 put0-take1 put0-take2 put1-put1 put2-put2"), ("part - - *", "done"),
            ("waits", "put0-put0 put0-take1 put0-take2 put1-put1"),
        ])

    def test_each_list_is_new(self):
        first = function("replies")(SHOP, BY_NAME, 1, "deeds")
        first.clear()
        self.gives(["0"], "replies", SHOP, BY_NAME, 1, "deeds")

    def test_sixty_lines(self):
        lines = ["put 2 tea food", "keep a sum 0 / - / -", "waits", "right", "home", "drop a"] * 10
        told = function("replies")(SHOP, BY_NAME, 3, "\n".join(lines))
        self.assertEqual(60, len(told))
        self.assertEqual(["done", "done"], told[-6:-4])


if __name__ == "__main__":
    unittest.main()
