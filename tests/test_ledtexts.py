"""Point 16: names, tables and answers as texts."""

import unittest

from lednames.errors import BadTable, BadText, NoName
from lednames.ledtexts import answer_text, name_text, read_name, read_table, table_text
from lednames.reading import count_moves
from lednames.tables import Lead, Other, Rest, Stop, Table, Thing
from tests.test_against_plain import some_tables
from tests.test_large import LABELS, chain
from tests.wrong import no_names, odd_things

# Things that are no strings.
NO_TEXTS = [thing for thing in odd_things() if not isinstance(thing, str)] + [0, 5, [], ["a"], ("a",), [["."]]]

BAD_NUMBERS = ["-0", "00", "01", "-01", "007", "+1", "--1", "1-", "-", "1.0", "1e3", "1_0", "0x1", "a", "1a", "1" * 31,
               "-" + "1" * 31, "0" * 30, "1" + "0" * 30, "\u0661", "\u00b2", "1\u0661", "1\n", "\n1", "-\u0661", "#1"]


class NameTextTest(unittest.TestCase):
    def test_names(self):
        cases = [([], "."), (["a"], "a"), (["a", "b"], "a.b"), (["abcdefgh"] * 3, "abcdefgh.abcdefgh.abcdefgh"),
                 (["k"] * 5000, ".".join("k" * 5000))]
        for name, text in cases:
            self.assertEqual(name_text(name), text)
            self.assertEqual(name_text(tuple(name)), text)
            self.assertEqual(read_name(text), tuple(name))
            self.assertIs(read_name(text).__class__, tuple)

    def test_wrong_names(self):
        for value in no_names():
            with self.assertRaises(NoName) as caught:
                name_text(value)
            self.assertIs(caught.exception.name, value)


class ReadNameTest(unittest.TestCase):
    def assert_bad(self, text, place):
        with self.assertRaises(BadText) as caught:
            read_name(text)
        self.assertEqual(caught.exception.place, place, text)
        self.assertIs(caught.exception.place.__class__, int)

    def test_the_first_label_that_is_none(self):
        cases = [("", 0), ("..", 0), ("...", 0), (".a", 0), ("a.", 1), ("a..b", 1), ("a.b.", 2), ("a.b..", 2),
                 ("A", 0), ("a.B", 1), ("a.B.C", 1), ("a.b.abcdefghi", 2), ("a.b1", 1), ("a,b", 0), ("a b", 0),
                 (" ", 0), (" a", 0), ("a ", 0), ("a. b", 1), ("a .b", 0), (" .", 0), (". ", 0), ("a.b\n", 1),
                 ("\n", 0), ("a.b-c", 1), ("a.b_", 1), ("1.2", 0), ("a.\u00e9", 1), ("\u00df.a", 0),
                 (".".join("k" * 3000) + ".", 3000), ("empty.; ", 1)]
        for text, place in cases:
            self.assert_bad(text, place)

    def test_what_is_no_string(self):
        for value in NO_TEXTS:
            self.assert_bad(value, 0)


class TableTextTest(unittest.TestCase):
    def test_texts(self):
        cases = [
            ([], "empty"),
            ([Thing([], 0)], "thing . 0"),
            ([Thing(["a", "b"], -5)], "thing a.b -5"),
            ([Other(["a"], [])], "other a ."),
            ([Other([], ["abcdefgh", "b"])], "other . abcdefgh.b"),
            ([Lead([], [])], "lead . ."),
            ([Lead(["x"], ["x", "x"])], "lead x x.x"),
            ([Rest([], 12)], "rest . 12"),
            ([Stop(["empty"])], "stop empty"),
            ([Stop([])], "stop ."),
            ([Lead(["b"], ["a"]), Thing(["a", "x"], 1), Thing(["a", "y"], 2)], "lead b a; thing a.x 1; thing a.y 2"),
            ([Thing(["a"], 1), Lead(["a"], []), Stop(["a"]), Other(["b"], []), Rest(["b"], 2), Thing(["c", "c"], 3)],
             "thing a 1; lead a .; stop a; other b .; rest b 2; thing c.c 3"),
            ([Thing(["thing"], 1), Stop(["stop"])], "stop stop; thing thing 1"),
        ]
        for rows, text in cases:
            self.assertEqual(table_text(Table(rows)), text)
            self.assertEqual(table_text(Table(rows[::-1])), text)
            self.assertEqual(read_table(text), Table(rows))

    def test_rows_in_any_order(self):
        table = Table([Thing(["b"], 1), Stop(["a"]), Rest([], 5)])
        for text in ("rest . 5; stop a; thing b 1", "thing b 1; stop a; rest . 5", "stop a; rest . 5; thing b 1; stop a"):
            self.assertEqual(read_table(text), table)
        self.assertEqual(table_text(read_table("stop a; rest . 5; thing b 1; stop a")), "rest . 5; stop a; thing b 1")

    def test_numbers(self):
        for number in (0, 1, -1, 9, 10, -10, 10 ** 29, 10 ** 30 - 1, 1 - 10 ** 30, -(10 ** 29), 2 ** 64):
            for kind, word in ((Thing, "thing"), (Rest, "rest")):
                text = f"{word} a.b {number}"
                self.assertEqual(table_text(Table([kind(["a", "b"], number)])), text)
                self.assertEqual(read_table(text), Table([kind(["a", "b"], number)]))

    def test_greater_numbers_are_written_and_not_read(self):
        for digits in (31, 59, 60, 61, 120, 121, 999, 1000):
            for number in (10 ** (digits - 1), 10 ** digits - 1, 10 ** digits // 7, -(10 ** digits // 3)):
                text = table_text(Table([Thing(["a"], number)]))
                self.assertEqual(text, f"thing a {number}")
                with self.assertRaises(BadText) as caught:
                    read_table(f"stop a; {text}")
                self.assertEqual(caught.exception.place, 1)

    def test_numbers_of_calls_with_very_many_digits(self):
        number = count_moves(Table(chain(60, 12, [])), ["aa", "z"])
        self.assertEqual(answer_text(("thing", number)), f"thing {(12 ** 60 - 1) // 11}")
        # Python itself writes no more than 4300 digits.
        text = table_text(Table([Rest([], -(10 ** 9000 + 7))]))
        self.assertEqual(text, "rest . -1" + "0" * 8999 + "7")
        self.assertEqual(answer_text(["thing", 10 ** 5000]), "thing 1" + "0" * 5000)

    def test_many_rows(self):
        rows = [Stop([first, second]) for first in LABELS for second in LABELS]
        text = table_text(Table(rows))
        self.assertEqual(text.count("; "), len(rows) - 1)
        self.assertEqual(read_table(text), Table(rows))

    def test_all_texts_are_read(self):
        for rows in (1, 4, 9):
            for table in some_tables(rows + 300, 60, rows):
                self.assertEqual(read_table(table_text(table)), table)


class ReadTableTest(unittest.TestCase):
    def assert_bad(self, text, place):
        with self.assertRaises(BadText) as caught:
            read_table(text)
        self.assertEqual(caught.exception.place, place, text)
        self.assertIs(caught.exception.place.__class__, int)

    def test_rows_that_are_none(self):
        rows = ["", " ", "empty empty", ".", "a", "stop", "thing", "thing . 1 ", " thing . 1", "thing  . 1", "thing .  1",
                "thing . 1;", "thing . 1,", "thing . 1 2", "thing .", "thing 1", "thing . a", "thing . .", "thing .. 1",
                "Thing . 1", "THING . 1", "things . 1", "thing a. 1", "thing A 1", "other a", "other a 1", "other a b c",
                "other a b.", "lead a", "lead a 1", "lead a b..c", "lead a  b", "rest a", "rest a b", "stop a b",
                "stop a 1", "stop  a", "stop a ", "stop 1", "stop abcdefghi", "put stop a", "row a b", "nothing", "stop\na",
                "stop a\n", "thing\t. 1", "thing a ", "rest a ", "lead a ", "stop a;stop b", "\u00e9 a"]
        rows += [f"thing . {number}" for number in BAD_NUMBERS] + [f"rest a {number}" for number in BAD_NUMBERS]
        for row in rows:
            self.assert_bad(row, 0)
            self.assert_bad(f"stop a; {row}", 1)
            self.assert_bad(f"stop a; lead a b; {row}; stop c", 2)
            self.assert_bad(f"stop a; {row}; {row}", 1)
            # The first place is told even if the rows ahead of it make no table.
            self.assert_bad(f"thing a 1; thing a 2; lead . .; {row}", 3)

    def test_separators(self):
        cases = [("; ", 0), ("stop a; ", 1), ("; stop a", 0), ("stop a; ; stop b", 1), ("stop a;  stop b", 1),
                 ("stop a ; stop b", 0), ("stop a;stop b", 0), ("stop a,stop b", 0), ("stop a; stop b;", 1),
                 ("stop a;; stop b", 0), ("empty; stop a", 0), ("stop a; empty", 1), ("empty ", 0), (" empty", 0),
                 ("empty;", 0), ("empty; ", 0), ("Empty", 0), ("empty empty", 0), ("stop a\nstop b", 0)]
        for text, place in cases:
            self.assert_bad(text, place)

    def test_the_example(self):
        self.assert_bad("thing . 1; lead a", 1)

    def test_what_is_no_string(self):
        for value in NO_TEXTS + [Table([]), b"empty", ["stop a"]]:
            self.assert_bad(value, 0)

    def test_errors_of_the_table(self):
        cases = [("thing a 1; thing a 2", "twice", ("a",)), ("thing . 1; other . a", "both", ()),
                 ("stop x.y; lead x .", "under", ("x", "y")), ("lead x .; rest x 1; stop a; stop a", "both", ("x",)),
                 ("thing b 1; thing b 2; thing a 1; thing a 2", "twice", ("a",))]
        for text, what, name in cases:
            with self.assertRaises(BadTable) as caught:
                read_table(text)
            self.assertEqual((caught.exception.what, caught.exception.name), (what, name))


class AnswerTextTest(unittest.TestCase):
    def test_answers(self):
        for answer, text in ((("thing", 5), "thing 5"), (("thing", -12), "thing -12"), (("nothing",), "nothing"),
                             (("round",), "round"), (("grows",), "grows"), (("thing", 10 ** 40), "thing 1" + "0" * 40)):
            self.assertEqual(answer_text(answer), text)
            self.assertEqual(answer_text(list(answer)), text)


if __name__ == "__main__":
    unittest.main()
