"""Point 17: the desk and its commands."""

import random
import unittest

from lednames.desk import Desk
from lednames.ledtexts import answer_text, name_text, read_table, table_text
from lednames.likeness import idle_rows
from lednames.least import least_count
from lednames.moving import walk_of
from lednames.reading import answer_of, count_moves
from lednames.tearing import torn_name
from tests.test_against_plain import some_tables
from tests.test_ledtexts import BAD_NUMBERS, NO_TEXTS

DONE = ["done"]
KEPT = ["kept"]
BAD = ["refused badtext"]

SOME = "lead x x.x; thing a.b 5; rest q -3; other r y; other y r; stop w"


class DeskTest(unittest.TestCase):
    def desk(self, text=None):
        desk = Desk()
        if text is not None:
            self.assertEqual(desk.tell(f"table {text}"), KEPT)
        return desk

    def assert_told(self, desk, cases):
        for command, told in cases:
            found = desk.tell(command)
            self.assertEqual(found, told, command)
            self.assertIs(found.__class__, list)


class TableTest(DeskTest):
    def test_at_first_there_are_no_rows(self):
        self.assert_told(Desk(), [("table", ["empty"]), ("least", ["0"]), ("idle", ["none"]), ("ask a.b", ["nothing"]),
                                  ("moves .", ["0"]), ("first nothing", ["."]), ("first round", ["none"]),
                                  ("place .", ["node ."]), ("place a", ["all nothing"]), ("walk . 1", ["."]),
                                  ("unlike empty", ["none"]), ("torn empty", ["safe"]), ("back", ["refused noback"])])

    def test_put_and_drop(self):
        self.assert_told(Desk(), [
            ("put lead x x.x", DONE), ("put thing a.b 5", DONE), ("table", ["lead x x.x; thing a.b 5"]),
            ("put rest . -7", DONE), ("put stop c", DONE), ("put other d .", DONE),
            ("table", ["rest . -7; stop c; other d .; lead x x.x; thing a.b 5"]),
            ("drop lead x x.x", DONE), ("drop stop c", DONE), ("drop other d .", DONE), ("drop rest . -7", DONE),
            ("table", ["thing a.b 5"]), ("drop thing a.b 5", DONE), ("table", ["empty"])])

    def test_rows_that_are_there_or_not(self):
        self.assert_told(Desk(), [
            ("put stop a", DONE), ("put stop a", DONE), ("table", ["stop a"]), ("drop stop b", ["refused norow"]),
            ("drop thing a 1", ["refused norow"]), ("table", ["stop a"]), ("drop stop a", DONE),
            ("drop stop a", ["refused norow"]), ("table", ["empty"])])

    def test_tables(self):
        self.assert_told(Desk(), [
            ("table stop b; stop a", KEPT), ("table", ["stop a; stop b"]), ("table empty", KEPT), ("table", ["empty"]),
            (f"table {SOME}", KEPT), ("table", ["rest q -3; other r y; stop w; lead x x.x; other y r; thing a.b 5"])])

    def test_tables_that_cannot_be(self):
        desk = self.desk("thing a 1; lead x y")
        refused = ["refused badtable"]
        self.assert_told(desk, [
            ("put thing a 2", refused), ("put other a b", refused), ("put lead x x", refused), ("put rest x 1", refused),
            ("put stop x.y", refused), ("table thing a 1; thing a 2", refused), ("unlike thing a 1; thing a 2", refused),
            ("torn lead . .; stop a", refused), ("table", ["thing a 1; lead x y"]), ("back", DONE), ("table", ["empty"]),
            ("back", ["refused noback"])])

    def test_the_example(self):
        desk = Desk()
        desk.tell("put lead x x.x")
        desk.tell("put thing a.b 5")
        self.assert_told(desk, [("ask x.k", ["grows"]), ("moves x.k", ["none"]), ("first thing 5", ["a.b"]),
                                ("put lead x y", ["refused badtable"])])


class BackTest(DeskTest):
    def test_back_through_all_to_the_first_table(self):
        desk = Desk()
        commands = ["put stop a", "put stop a", "put thing b 1", "drop stop a", "table lead x .; stop y", "table empty",
                    "table empty", "put rest . 4", "drop rest . 4", "put rest . 5"]
        tables = [desk.tell("table")]
        for command in commands:
            self.assertIn(desk.tell(command), (DONE, KEPT))
            tables.append(desk.tell("table"))
        for told in tables[-2::-1]:
            self.assert_told(desk, [("back", DONE), ("table", told)])
        self.assertEqual(desk.tell("table"), ["empty"])
        self.assert_told(desk, [("back", ["refused noback"]), ("back", ["refused noback"]), ("table", ["empty"])])
        self.assert_told(desk, [("put stop b", DONE), ("back", DONE), ("back", ["refused noback"])])

    def test_what_was_refused_or_only_asked_is_not_undone(self):
        desk = Desk()
        self.assert_told(desk, [
            ("put thing a 1", DONE), ("put thing a 2", ["refused badtable"]), ("drop stop q", ["refused norow"]),
            ("table stop", BAD), ("table thing a 1; thing a 2", ["refused badtable"]), ("ask a", ["thing 1"]),
            ("table", ["thing a 1"]), ("idle", ["none"]), ("unlike empty", ["a"]), ("torn empty", ["safe"]),
            ("back now", BAD), (None, BAD), ("back", DONE), ("table", ["empty"]), ("back", ["refused noback"])])

    def test_what_was_undone_is_not_undone_again(self):
        self.assert_told(Desk(), [
            ("put stop a", DONE), ("put stop b", DONE), ("back", DONE), ("put stop c", DONE), ("table", ["stop a; stop c"]),
            ("back", DONE), ("table", ["stop a"]), ("back", DONE), ("table", ["empty"]), ("back", ["refused noback"])])

    def test_very_many_changes(self):
        desk = Desk()
        for _ in range(1000):
            self.assertEqual(desk.tell("put stop a"), DONE)
        for _ in range(1000):
            self.assertEqual(desk.tell("back"), DONE)
        self.assertEqual(desk.tell("back"), ["refused noback"])

    def test_desks_have_their_own_tables(self):
        one, other = Desk(), Desk()
        one.tell("put stop a")
        self.assert_told(other, [("table", ["empty"]), ("back", ["refused noback"])])


class AskTest(DeskTest):
    def test_answers(self):
        desk = self.desk(SOME)
        self.assert_told(desk, [
            ("ask a.b", ["thing 5"]), ("ask a", ["nothing"]), ("ask .", ["nothing"]), ("ask q.z", ["thing -3"]),
            ("ask r", ["round"]), ("ask x.x.x", ["grows"]), ("ask w", ["nothing"])])

    def test_moves(self):
        desk = self.desk("lead a b.b; lead b c.c; lead c .; other d a.a; other e e")
        self.assert_told(desk, [("moves a.z", ["7"]), ("moves .", ["0"]), ("moves d", ["8"]), ("moves e", ["none"]),
                                ("moves z.a.a", ["0"])])

    def test_many_moves(self):
        letters = [one + other for one in "abcdefgh" for other in "abcdefgh"]
        rows = [f"lead {letters[at]} " + ".".join([letters[at + 1]] * 12) for at in range(59)]
        desk = self.desk("; ".join(rows) + f"; lead {letters[59]} .")
        self.assertEqual(desk.tell("moves aa.z"), [str((12 ** 60 - 1) // 11)])

    def test_walks(self):
        desk = self.desk("lead x y.y; lead y .; other k k")
        self.assert_told(desk, [
            ("walk x.z 9", ["x.z", "y.y.z", "y.z", "z"]), ("walk x.z 3", ["x.z", "y.y.z", "y.z"]),
            ("walk x.z 1", ["x.z"]), ("walk . 2000", ["."]), ("walk k 3", ["k", "k", "k"]), ("walk x 5", ["x"])])

    def test_walks_of_very_many_names(self):
        desk = self.desk("lead x x.x; other k k")
        self.assertEqual(desk.tell("walk k 2000"), ["k"] * 2000)
        told = desk.tell("walk x.k 2000")
        self.assertEqual(told[:3], ["x.k", "x.x.k", "x.x.x.k"])
        self.assertEqual(len(told), 2000)
        self.assertEqual(told[-1], "x." * 2000 + "k")
        self.assert_told(desk, [("walk k 1", ["k"]), ("walk k 2001", BAD), ("walk k 0", BAD), ("walk k -1", BAD)])

    def test_places(self):
        desk = self.desk("lead x y; thing y.z 1; rest y 2; lead u u; lead v v.v")
        self.assert_told(desk, [
            ("place .", ["node ."]), ("place x", ["node y"]), ("place x.z", ["node y.z"]), ("place y.q", ["all thing 2"]),
            ("place u", ["all round"]), ("place v.v", ["all grows"]), ("place z", ["all nothing"])])


class LeastTest(DeskTest):
    def test_least_number_of_rows(self):
        for text, told in (("thing a.x 1; thing a.y 2; thing b.x 1; thing b.y 2", "3"), ("rest . 1; stop a", "2"),
                           ("stop a", "0"), ("thing . 4", "1"), ("lead . .", "1")):
            self.assertEqual(self.desk(text).tell("least"), [told])

    def test_first_names(self):
        desk = self.desk(SOME)
        self.assert_told(desk, [
            ("first thing 5", ["a.b"]), ("first thing -3", ["q.a"]), ("first nothing", ["."]), ("first round", ["r"]),
            ("first grows", ["x.a"]), ("first thing 6", ["none"]), ("first thing 0", ["none"])])
        self.assertEqual(self.desk("thing . 8").tell("first thing 8"), ["."])

    def test_idle_rows(self):
        self.assert_told(self.desk("thing a 1; stop a.b; stop c"), [("idle", ["stop c", "stop a.b"])])
        self.assert_told(self.desk("other a b; lead c d; stop e"), [("idle", ["other a b", "lead c d", "stop e"])])
        self.assert_told(self.desk("thing a 1"), [("idle", ["none"])])


class UnlikeTest(DeskTest):
    def test_unlike_names(self):
        desk = self.desk("lead x y; thing y.z 1; rest y 2")
        self.assert_told(desk, [
            ("unlike thing y.z 1; thing x.z 1; rest x 2; rest y 3", ["y.a"]), ("unlike lead x y; thing y.z 1; rest y 2", ["none"]),
            ("unlike rest y 2; rest x 2; thing x.z 1; thing y.z 1", ["none"]), ("unlike empty", ["x.a"]),
            ("unlike thing . 1", ["."])])

    def test_torn_names(self):
        desk = self.desk("lead a b; thing b.c 1")
        self.assert_told(desk, [
            ("torn lead a d; thing d.c 1", ["a.c nothing"]), ("torn lead a b; thing b.c 1", ["safe"]),
            ("torn empty", ["safe"]), ("torn lead a b; thing b.c 2", ["safe"]),
            ("torn thing a.c 3; thing b.c -4", ["a.c thing -4"])])
        self.assert_told(self.desk("other . a"), [("torn thing a 1", [". thing 1"]), ("torn other a a", [". round"])])
        self.assert_told(self.desk("lead a b; lead b c"), [("torn lead b b.b; rest a 1", ["a.a grows"])])

    def test_the_direction_of_exchange(self):
        self.assertEqual(self.desk("other a b").tell("torn thing b 1"), ["a thing 1"])
        self.assertEqual(self.desk("thing b 1").tell("torn other a b"), ["safe"])


class RefusedTest(DeskTest):
    def commands(self):
        words = ["put", "drop", "table", "back", "ask", "moves", "walk", "place", "least", "first", "idle", "unlike", "torn"]
        alone = ["table", "back", "least", "idle"]
        commands = [word for word in words if word not in alone]
        commands += [f"{word} " for word in words] + [f" {word}" for word in words]
        commands += [word.upper() for word in words] + [word.title() for word in words] + [word + "s" for word in words]
        commands += [f"{word}\n" for word in words] + [f"{word}\t" for word in words]
        commands += [f"{word} {more}" for word in ("back", "least", "idle") for more in ("a", ".", "1", "empty", " ", "stop a")]
        commands += [f"{word}  a" for word in ("ask", "moves", "place")] + ["ask a ", "moves a ", "place a ", "ask a b"]
        commands += [f"{word} {name}" for word in ("ask", "moves", "place") for name in
                     ("", "..", "a.", ".a", "a..b", "A", "abcdefghi", "a b", "a,b", "1", "a.1", "empty ", "\u00e9", "a\n")]
        commands += [f"{word} {row}" for word in ("put", "drop") for row in
                     ("", "stop", "stop A", "stop a ", " stop a", "stop  a", "thing a", "thing a b", "thing a 01", "empty",
                      "lead a", "lead a 1", "other a b c", "rest a -0", "stop a; stop b", "stop a;", "row a 1")]
        commands += [f"{word} {text}" for word in ("table", "unlike", "torn") for text in
                     ("", " ", "stop", "stop a;", "stop a; ", "; stop a", "stop a;stop b", "stop a;  stop b", "empty;",
                      "stop a, stop b", "thing a 01", "empty stop a", "stop a ; stop b", " empty", "empty ", "Empty")]
        commands += ["walk a", "walk 5", "walk a 5 5", "walk  a 5", "walk a  5", "walk a 5 ", "walk a b 5", "walk a. 5",
                     "walk A 5", "walk a 0", "walk a -5", "walk a 2001", "walk a 1000000", "walk a 5.", "walk 5 a", "walk  5"]
        commands += [f"walk a {number}" for number in BAD_NUMBERS]
        commands += [f"first {answer}" for answer in
                     ("", " ", "thing", "thing ", "thing a", "thing  1", "thing 1 ", "nothing ", " nothing", "Nothing",
                      "something", "rounds", "round 1", "grows 1", "nothing 1", "thing 1 1", "('round',)", "none")]
        commands += [f"first thing {number}" for number in BAD_NUMBERS]
        return commands + ["", " ", "  ", "a", "help", "quit", "undo", "tell table", "table\ntable", "put\tstop a",
                           "\u00e9", "put stop a\x00", "ask a #"]

    def test_other_commands(self):
        desk = self.desk(SOME)
        before = desk.tell("table")
        for command in self.commands():
            self.assertEqual(desk.tell(command), BAD, command)
            self.assertEqual(desk.tell("table"), before, command)
        self.assert_told(desk, [("back", DONE), ("table", ["empty"]), ("back", ["refused noback"])])

    def test_what_is_no_string(self):
        desk = self.desk(SOME)
        before = desk.tell("table")
        for command in NO_TEXTS + [["back"], ("table",), b"table", b"back"]:
            self.assertEqual(desk.tell(command), BAD)
        self.assertEqual(desk.tell("table"), before)
        self.assert_told(desk, [("back", DONE), ("back", ["refused noback"])])

    def test_bad_texts_come_ahead_of_other_errors(self):
        desk = Desk()
        self.assert_told(desk, [
            ("back ", BAD), ("drop stop", BAD), ("drop stop a ", BAD), ("table thing a 1; thing a 2; stop", BAD),
            ("unlike thing a 1; other a b; x", BAD), ("torn lead . .; stop a; ", BAD), ("drop stop a", ["refused norow"]),
            ("back", ["refused noback"])])

    def test_answers_are_new_lists(self):
        desk = self.desk("stop a")
        for command in ("table", "idle", "ask a", "walk a 3", "least", "torn empty", "back now"):
            told = desk.tell(command)
            again = desk.tell(command=command)
            told.append("more")
            told[0] = "other"
            self.assertEqual(desk.tell(command), again)


class ProgramTest(DeskTest):
    def test_answers_of_the_desk_are_those_of_the_calls(self):
        source = random.Random(4)
        names = ["a", "b", "a.b", "b.a.c", ".", "a.a.b.b"]
        for table, other in zip(some_tables(400, 80, 4), some_tables(401, 80, 3)):
            desk = self.desk(table_text(table))
            text = source.choice(names)
            name = () if text == "." else tuple(text.split("."))
            moves = count_moves(table, name)
            torn = torn_name(table, other)
            self.assert_told(desk, [
                (f"ask {text}", [answer_text(answer_of(table, name))]),
                (f"moves {text}", ["none" if moves is None else str(moves)]),
                (f"walk {text} 30", [name_text(met) for met in walk_of(table, name, 30)]),
                ("least", [str(least_count(table))]),
                ("idle", [table_text(read_table(line)) for line in desk.tell("idle")] if idle_rows(table) else ["none"]),
                (f"torn {table_text(other)}",
                 ["safe" if torn is None else f"{name_text(torn[0])} {answer_text(torn[1])}"]),
            ])
            self.assertEqual(len(idle_rows(table)), len([line for line in desk.tell("idle") if line != "none"]))


if __name__ == "__main__":
    unittest.main()
