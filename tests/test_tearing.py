"""Point 14: the answers to which names can come when a table is exchanged for another one on the way."""

import itertools
import random
import unittest

from lednames.errors import BadTable, NoName
from lednames.far import name_after
from lednames.least import least_table
from lednames.likeness import unlike_name
from lednames.moving import walk_of
from lednames.reading import answer_of, count_moves
from lednames.tables import Lead, Other, Rest, Stop, Table, Thing
from lednames.tearing import torn_answers, torn_name
from tests.plain import answer_place, labels_of, plain_torn, plain_walk
from tests.test_against_plain import ASKED, NAMES, names_of, some_tables
from tests.wrong import no_names

NOTHING = ("nothing",)
ROUND = ("round",)
GROWS = ("grows",)


def tower(many, times, end):
    """Leads of a, b, c .. of which each one leads to the next label, so often; the last one leads to `end`."""
    letters = "abcdefghijklmnopqrst"
    rows = [Lead([letters[at]], [letters[at + 1]] * times) for at in range(many - 1)]
    return rows + [Lead([letters[many - 1]], end)]


class TornAnswersTest(unittest.TestCase):
    def assert_torn(self, rows, others, cases):
        one, other = Table(rows), Table(others)
        for text, answers in cases:
            name = text.split()
            self.assertEqual(torn_answers(one, other, name), answers, text)
            self.assertEqual(torn_answers(one, other, tuple(name)), answers, text)

    def test_tables_without_rows(self):
        self.assert_torn([], [], [("", [NOTHING]), ("a b", [NOTHING])])
        self.assert_torn([Thing([], 1)], [], [("", [("thing", 1), NOTHING]), ("a", [NOTHING])])

    def test_no_moves_and_all_of_them(self):
        # The name has no other name on the way, and so just its answers by each table.
        self.assert_torn([Thing(["a"], 2), Rest([], 5)], [Thing(["a"], 1), Rest([], 5)], [
            ("a", [("thing", 1), ("thing", 2)]), ("b", [("thing", 5)]), ("a b", [NOTHING])])
        # The last move can be made by the first table, and the answer be told by the second one.
        self.assert_torn([Other(["a"], ["b"]), Thing(["b"], 1)], [Thing(["b"], 3), Thing(["a"], 2)], [
            ("a", [("thing", 1), ("thing", 2), ("thing", 3)]), ("b", [("thing", 1), ("thing", 3)])])

    def test_moves_by_the_second_table_are_made_last(self):
        rows, others = [Lead(["a"], ["b"])], [Lead(["b"], ["c"]), Thing(["c", "k"], 4)]
        self.assert_torn(rows, others, [("a k", [("thing", 4), NOTHING]), ("b k", [("thing", 4), NOTHING])])
        self.assert_torn(others, rows, [("a k", [NOTHING]), ("b k", [("thing", 4), NOTHING])])

    def test_the_order_of_answers(self):
        rows = [Other(["a"], ["b"]), Other(["b"], ["c"]), Other(["c"], ["d"]), Other(["d"], ["e"]),
                Other(["e"], ["f"]), Other(["f"], ["a"])]
        others = [Other(["a"], ["z", "z"]), Lead(["z"], ["z", "z"]), Thing(["b"], 10 ** 40), Thing(["c"], -3),
                  Other(["d"], ["d"]), Thing(["e"], 0), Thing(["f"], -(10 ** 40))]
        self.assert_torn(rows, others, [
            (text, [("thing", -(10 ** 40)), ("thing", -3), ("thing", 0), ("thing", 10 ** 40), ROUND, GROWS])
            for text in "abcdef"])
        self.assert_torn(others, rows, [
            ("a", [NOTHING, ROUND, GROWS]), ("b", [("thing", 10 ** 40), ROUND]), ("d", [ROUND]), ("g", [NOTHING])])

    def test_what_stands_at_a_name_that_is_met_alone(self):
        rows = [Lead(["a"], ["b"]), Lead(["b"], ["c"])]
        for others in ([Thing(["b", "k"], 7)], [Other(["b", "k"], ["q"]), Thing(["q"], 7)],
                       [Lead(["b"], ["d"]), Thing(["d", "k"], 7)], [Rest(["b"], 7)]):
            self.assert_torn(rows, others, [("a k", [("thing", 7), NOTHING]), ("c k", [NOTHING]), ("a", [NOTHING])])
        # It has to be met with just what is behind it.
        self.assert_torn(rows, [Thing(["b", "q"], 7), Thing(["b"], 8)], [("a k", [NOTHING]), ("a", [NOTHING])])
        self.assert_torn([Other(["a"], ["b"]), Other(["b"], ["c"])], [Thing(["b"], 7)], [
            ("a", [("thing", 7), NOTHING]), ("c", [NOTHING]), ("a k", [NOTHING])])

    def test_the_root_on_the_way(self):
        self.assert_torn([Other([], ["a"]), Other(["a"], [])], [Thing([], 1), Thing(["a"], 2)], [
            ("", [("thing", 1), ("thing", 2), ROUND]), ("a", [("thing", 1), ("thing", 2), ROUND])])
        self.assert_torn([Lead([], ["b"])], [Thing(["b", "b", "k"], 3), Rest([], 1)], [
            ("", [NOTHING]), ("k", [("thing", 1), ("thing", 3), NOTHING, GROWS])])
        self.assert_torn([Lead([], [])], [Thing(["k"], 3)], [("k", [("thing", 3), ROUND]), ("q", [NOTHING, ROUND])])

    def test_rings(self):
        rows = [Lead(["w"], ["y"]), Lead(["y"], ["z"]), Lead(["z"], ["y"])]
        self.assert_torn(rows, [Thing(["z", "k"], 4)], [
            ("y k", [("thing", 4), NOTHING, ROUND]), ("z k", [("thing", 4), NOTHING, ROUND]),
            ("w k", [("thing", 4), NOTHING, ROUND]), ("z", [NOTHING]), ("z q", [NOTHING, ROUND])])
        self.assert_torn(rows, [Thing(["w", "k"], 4)], [
            ("w k", [("thing", 4), NOTHING, ROUND]), ("y k", [NOTHING, ROUND])])

    def test_names_that_grow(self):
        rows = [Lead(["x"], ["x", "x"])]
        self.assert_torn(rows, [Thing(["x"] * 7 + ["k"], 5)], [
            ("x k", [("thing", 5), NOTHING, GROWS]), ("x x x k", [("thing", 5), NOTHING, GROWS]),
            (" ".join("x" * 7) + " k", [("thing", 5), NOTHING, GROWS]),
            (" ".join("x" * 8) + " k", [NOTHING, GROWS]), ("x", [NOTHING])])
        # Each of the numbers of labels that are left over comes.
        others = [Lead(["x"] * 7, [])] + [Thing(["x"] * at + ["k"], at) for at in range(7)]
        self.assert_torn(rows, others, [("x k", [("thing", at) for at in range(7)] + [GROWS])])
        # By two labels each time, so just every second one comes.
        others = [Lead(["x"] * 8, [])] + [Thing(["x"] * at + ["k"], at) for at in range(8)]
        self.assert_torn([Lead(["x"], ["x", "x", "x"])], others, [
            ("x k", [("thing", at) for at in (1, 3, 5, 7)] + [GROWS]),
            ("x x k", [("thing", at) for at in (0, 2, 4, 6)] + [GROWS])])

    def test_towers_with_very_many_moves(self):
        rows = tower(20, 2, [])
        name = ["a", "z"]
        self.assertEqual(count_moves(Table(rows), name), 2 ** 20 - 1)
        for count in (1, 2, 19, 20, 500, 12345, 700001, 2 ** 20 - 2):
            [(met, times)] = name_after(Table(rows), name, count)
            self.assertEqual(times, 1)
            self.assertEqual(torn_answers(Table(rows), Table([Thing(met, 6)]), name), [("thing", 6), NOTHING])
            # The same labels in another order are never met, nor is the name with one label less.
            for other in (met[:-2] + ("y",) + met[-1:], met[1:-2] + met[-2:-1] + met[:1] + ("z", "z"), met[:-1]):
                self.assertEqual(torn_answers(Table(rows), Table([Thing(other, 6)]), name), [NOTHING])

    def test_a_tower_exchanged_for_a_tower(self):
        one = Table(tower(20, 2, []))
        # Going on by this one, all that is left of the name is counted anew.
        other = Table([Lead([letter], []) for letter in "abcdefghijklmnopqr"] + [Thing(["z"], 1), Thing(["s", "z"], 2)])
        self.assertEqual(torn_answers(one, other, ["a", "z"]), [("thing", 1), ("thing", 2), NOTHING])
        other = Table(tower(20, 3, ["t", "t"]))
        self.assertEqual(torn_answers(one, other, ["a", "z"]), [NOTHING, GROWS])
        self.assertEqual(torn_answers(other, one, ["a", "z"]), [NOTHING, GROWS])
        self.assertEqual(torn_answers(one, one, ["a", "z"] * 100), [NOTHING])

    def test_towers_by_moves_that_are_made_one_by_one(self):
        source = random.Random(12)
        rows = tower(6, 2, [])
        names = walk_of(Table(rows), ["a", "z"], 2000)
        for _ in range(60):
            others = [Thing(names[source.randrange(len(names))], at) for at in range(3)]
            others += [Lead([source.choice("abcdef")], source.choice(NAMES + [("d",), ("f", "e")])) for _ in range(1)]
            try:
                other = Table(others)
            except BadTable:
                continue
            for name in (("a", "z"), ("b", "a", "z"), ("d", "d", "z")):
                self.assertEqual(torn_answers(Table(rows), other, name), plain_torn(rows, others, name, {}))

    def test_long_names(self):
        one = Table(tower(19, 2, []) + [Thing(["z"], 1)])
        other = Table([Lead([letter], []) for letter in "abcdefghijklmnopqrs"] + [Thing(["z"], 2)])
        self.assertEqual(torn_answers(one, other, ["a", "b"] * 99 + ["z"]), [("thing", 1), ("thing", 2)])
        self.assertEqual(torn_answers(one, other, ["a"] * 5000 + ["z"]), [("thing", 1), ("thing", 2)])
        self.assertEqual(torn_answers(one, other, ["a"] * 5000 + ["z", "y"]), [NOTHING])

    def test_returned_names_are_handed_in(self):
        one = Table([Lead(["x"], ["x"] * 12)])
        other = Table([Lead(["x"] * 12, []), Thing(["x", "k"], 3)])
        name = walk_of(one, ["x", "k"], 200)[-1]
        self.assertEqual(len(name), 199 * 11 + 2)
        self.assertEqual(torn_answers(one, other, name), plain_torn(one.rows, other.rows, ("x", "x", "k"), {}))

    def test_wrong_names(self):
        table = Table([Lead(["a"], ["b"])])
        for value in no_names():
            with self.assertRaises(NoName) as caught:
                torn_answers(table, table, value)
            self.assertIs(caught.exception.name, value)


class TornNameTest(unittest.TestCase):
    def assert_torn(self, rows, others, expected):
        """`expected` is a pair of a name's text and an answer, or None."""
        if expected is not None:
            expected = (tuple(expected[0].split()), expected[1])
        self.assertEqual(torn_name(Table(rows), Table(others)), expected)

    def test_safe_changes(self):
        self.assert_torn([], [], None)
        self.assert_torn([Thing([], 1), Rest([], 2)], [Thing([], 3), Rest([], 4), Thing(["a"], 5)], None)
        self.assert_torn([Lead(["a"], ["b"])], [Lead(["a"], ["b"])], None)
        self.assert_torn([Lead(["a"], ["b"]), Thing(["b", "k"], 1)], [Lead(["a"], ["b"]), Thing(["b", "k"], 2)], None)
        self.assert_torn([Lead([], [])], [Lead([], ["a"])], None)

    def test_the_root(self):
        self.assert_torn([Other([], ["a"]), Thing(["a"], 1)], [Thing([], 2), Thing(["a"], 3)], ("", ("thing", 3)))
        self.assert_torn([Other([], ["a"]), Thing(["a"], 1)], [Thing([], 2)], ("", NOTHING))
        self.assert_torn([Other([], ["a"]), Thing(["a"], 1)], [Thing([], 2), Thing(["a"], 2)], None)

    def test_lead_of_all_names(self):
        self.assert_torn([Lead([], ["b"])], [Thing(["b", "b"], 3)], ("b", ("thing", 3)))
        self.assert_torn([Lead([], ["a"])], [Thing(["a", "b", "a"], 3)], ("b a", ("thing", 3)))

    def test_the_first_answer_in_the_order_told(self):
        rows = [Other(["a"], ["b"]), Other(["b"], ["c"]), Other(["c"], ["d"]), Thing(["d"], 1)]
        self.assert_torn(rows, [Thing(["a"], 5), Thing(["b"], 3), Thing(["c"], 2)], ("a", ("thing", 2)))
        self.assert_torn(rows, [Thing(["a"], 5), Thing(["b"], 5), Thing(["c"], 1)], ("a", NOTHING))
        self.assert_torn(rows, [Thing(["a"], 5), Thing(["b"], 5), Thing(["c"], 1), Other(["d"], ["d"])], ("a", ROUND))
        self.assert_torn(rows, [Thing(["a"], 1), Thing(["b"], 5), Thing(["d"], 1)], ("a", ("thing", 5)))

    def test_names_that_are_met_alone(self):
        rows = [Lead(["a"], ["b"]), Lead(["b"], ["c"])]
        self.assert_torn(rows, [Thing(["b", "k"], 7)], ("a k", ("thing", 7)))
        self.assert_torn(rows, [Lead(["a"], ["c"]), Lead(["b"], ["d"]), Thing(["d", "k", "k"], 7)],
                         ("a k k", ("thing", 7)))

    def test_labels_that_stand_in_no_row(self):
        rows = [Lead(["a"], ["b"]), Lead(["b"], ["c"])]
        self.assert_torn(rows, [Rest(["b"], 7)], ("a a", ("thing", 7)))
        self.assert_torn(rows, [Rest(["b"], 7), Thing(["b", "a"], 1), Lead(["b", "c"], ["d"])], ("a a", ("thing", 1)))
        self.assert_torn(rows, [Rest(["b"], 7), Stop(["b", "a"]), Stop(["b", "b"]), Stop(["b", "c"])],
                         ("a d", ("thing", 7)))
        self.assert_torn(rows, [Rest(["b"], 7), Stop(["b", "a"]), Stop(["b", "b"]), Stop(["b", "c"]), Other(["e"], [])],
                         ("a d", ("thing", 7)))
        self.assert_torn(rows + [Stop(["d"])], [Rest(["b"], 7)] + [Stop(["b", label]) for label in "abcd"],
                         ("a e", ("thing", 7)))

    def test_the_least_name(self):
        rows = [Lead(["a"], ["b"]), Lead(["b"], ["c"]), Lead(["e"], ["b"]), Other(["f"], ["b"])]
        self.assert_torn(rows, [Thing(["b", "k"], 7), Thing(["b", "h"], 8)], ("a h", ("thing", 8)))
        self.assert_torn(rows, [Thing(["b", "k"], 7), Thing(["b", "h", "h"], 8)], ("a k", ("thing", 7)))
        self.assert_torn([Lead(["a"], ["b"]), Lead(["b"], ["a"]), Other(["z"], ["y"]), Other(["y"], ["z"])],
                         [Thing(["b", "k"], 7), Thing(["y"], 8)], ("y", NOTHING))

    def test_a_way_on_which_the_names_are_torn_in_part(self):
        rows = [Lead(["a"], ["b"]), Lead(["b"], ["c"]), Thing(["c", "k"], 1)]
        self.assert_torn(rows, [Lead(["a"], ["c"]), Lead(["b"], ["c"]), Thing(["c", "k"], 2)], None)
        self.assert_torn(rows, [Lead(["a"], ["c"]), Thing(["c", "k"], 2)], ("a k", NOTHING))
        self.assert_torn(rows, [Lead(["a"], ["c"]), Thing(["b", "k"], 2), Thing(["c", "k"], 2)], None)
        self.assert_torn(rows, [Lead(["a"], ["c"]), Thing(["b", "k"], 1)], ("b k", NOTHING))
        self.assert_torn(rows, [Thing(["a", "k"], 1), Thing(["c", "k"], 2)], ("a k", ("thing", 2)))

    def test_names_of_dozens_of_labels(self):
        for first, second, length in ((5, 7, 15), (11, 12, 26), (9, 12, 24), (12, 12, None)):
            rows = [Lead(["a"] * first, []), Thing(["a"] * 3, 1)]
            others = [Lead(["a"] * second, []), Thing(["a"] * 3, 1)]
            self.check_least(rows, others, length)
        rows = [Lead(["a"] * 12, ["b"]), Lead(["b"] + ["a"] * 11, []), Thing(["a"] * 3, 1)]
        others = [Lead(["a"] * 12, ["b"]), Lead(["b"] + ["a"] * 10, []), Thing(["a"] * 3, 1)]
        self.check_least(rows, others, 26)

    def check_least(self, rows, others, length):
        """The least of all names of labels a, with two b at most, has just so many labels; None if none is torn."""
        known = {}
        many = range((length or 20) + 1)
        places = [()] + [(at,) for at in many] + list(itertools.combinations(many, 2))
        names = [tuple("b" if at in marked else "a" for at in range(size))
                 for size in many for marked in places if size > max(marked, default=-1)]
        expected = None
        for name in sorted(names, key=lambda found: (len(found), found)):
            answers = plain_torn(rows, others, name, known)
            torn = [answer for answer in answers if answer not in (plain_walk(rows, name)[0], known[name])]
            if torn:
                expected = (name, torn[0])
                break
        self.assertEqual(torn_name(Table(rows), Table(others)), expected)
        self.assertEqual(None if expected is None else len(expected[0]), length)

    def test_very_many_sets_of_states(self):
        # Behind so many labels any set of the places 0 to 11 can be where names on the way stand by the second table.
        rows = [Lead(["a"], []), Lead(["b"], ["b", "a"])] + [Rest(["c"], 1)]
        others = [Lead(["a"] * 12, ["a"]), Lead(["b"], []), Thing(["a"] * 11 + ["c"], 1)]
        name, answer = torn_name(Table(rows), Table(others))
        own = (answer_of(Table(rows), name), answer_of(Table(others), name))
        self.assertNotIn(answer, own)
        self.assertIn(answer, torn_answers(Table(rows), Table(others), name))

    def test_twenty_rows_of_twelve_labels(self):
        names = [("k",) * 10 + (letter,) for letter in "tsrqponmlijhgfedcba"]
        rows = [Lead(name, target) for name, target in zip(names, names[1:])]
        one = Table(rows + [Thing(names[-1] + ("k",), 1), Rest(["x"] * 12, 1)])
        other = Table([Lead(name, ["y"]) if name == names[7] else Lead(name, target)
                       for name, target in zip(names, names[1:])] + [Thing(["y", "k"], 1), Rest(["x"] * 12, 1)])
        self.assertEqual(len(one.rows), 20)
        # The least of the names that come to the one whose Lead is exchanged is that itself.
        self.assertEqual(torn_name(one, other), (("k",) * 10 + ("m", "k"), NOTHING))
        self.assertIsNone(torn_name(one, Table(rows)))
        self.assertIsNone(torn_name(Table(rows), one))
        self.assertIsNone(torn_name(one, one))

    def test_returned_tables_with_long_names(self):
        rows = [Lead(["a"] * 12, ["b"]), Lead(["b"] + ["a"] * 11, ["c"]), Lead(["c"] + ["a"] * 11, []),
                Thing(["a"] * 3, 1)]
        one = least_table(Table(rows))
        self.assertIsNone(torn_name(Table(rows), one))
        self.assertIsNone(torn_name(one, Table(rows)))
        long = Table([Lead(["a"] * 599, []), Thing(["a"] * 3, 1)])
        other = Table([Lead(["a"] * 600, []), Thing(["a"] * 7, 1)])
        self.assertEqual(torn_name(long, other), (("a",) * 606, ("thing", 1)))


class AgainstPlainTest(unittest.TestCase):
    def compare(self, one, other):
        """Compare all names of up to three labels; return whether one of them is torn."""
        known = {}
        labels = labels_of(one, other)
        least = None
        for name in ASKED:
            answers = plain_torn(one.rows, other.rows, name, known)
            self.assertEqual(torn_answers(one, other, name), answers)
            own = (plain_walk(one.rows, name)[0], known[name])
            torn = [answer for answer in answers if answer not in own]
            if least is None and torn and all(label in labels for label in name):
                least = (name, torn[0])
        found = torn_name(one, other)
        if least is None and found is not None:
            self.assertGreater(len(found[0]), 3)
            name, answer = found
            torn = plain_torn(one.rows, other.rows, name, {})
            own = (plain_walk(one.rows, name)[0], plain_walk(other.rows, name)[0])
            self.assertEqual(answer, next(told for told in torn if told not in own))
        else:
            self.assertEqual(found, least)
        return found is not None

    def test_tables_of_some_rows(self):
        source = random.Random(1)
        torn = 0
        for rows in (1, 2, 3, 4, 6):
            tables = some_tables(rows + 100, 60, rows)
            for one, other in zip(tables, tables[1:]):
                torn += self.compare(one, other)
                kept = [row for row in one.rows if source.random() < 0.6]
                try:
                    torn += self.compare(one, Table(kept + [source.choice(other.rows)]))
                except BadTable:
                    pass
        self.assertGreater(torn, 60)

    def test_single_leads(self):
        short = NAMES[:4]
        for name, target, end in itertools.product(short[1:], NAMES, short):
            self.compare(Table([Lead(name, target), Thing(["b"], 1)]), Table([Lead(name, end), Thing(["a"], 2)]))

    def test_longer_names(self):
        source = random.Random(2)
        names = names_of("ab", 4)
        for one, other in zip(some_tables(120, 40, 4), some_tables(121, 40, 4)):
            known = {}
            for name in source.sample(names, 12):
                expected = plain_torn(one.rows, other.rows, name, known)
                self.assertEqual(torn_answers(one, other, name), expected)
                self.assertEqual(expected, sorted(expected, key=answer_place))

    def test_tables_that_are_alike_are_safe(self):
        found = 0
        for table in some_tables(130, 60, 5):
            least = least_table(table)
            self.assertIsNone(unlike_name(table, least))
            self.assertIsNone(torn_name(table, least))
            self.assertIsNone(torn_name(least, table))
            found += least != table
        self.assertGreater(found, 30)


if __name__ == "__main__":
    unittest.main()
