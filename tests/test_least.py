"""Points 11 and 12: the least number of rows, normal tables, tables for one answer, and flat tables."""

import itertools
import unittest

from lednames.errors import BadAnswer, Large
from lednames.least import (count_normal, flat_table, is_least, least_count, least_parts, least_table, only_table)
from lednames.likeness import unlike_name
from lednames.spanning import count_trees
from lednames.tables import Lead, Other, Rest, Stop, Table, Thing
from tests.wrong import no_numbers, odd_things

NOTHING = ("nothing",)
ROUND = ("round",)
GROWS = ("grows",)


class LeastTest(unittest.TestCase):
    def assert_least(self, rows, parts, normal, expected):
        """`expected` has the rows of the least table, or is None if they are those that are given."""
        table = Table(rows)
        count = sum(parts[:4]) - max(parts[4] - 1, 0)
        self.assertEqual(least_parts(table), parts)
        self.assertEqual(least_count(table), count)
        self.assertEqual(count_normal(table), normal)
        found = least_table(table)
        self.assertEqual(found, Table(rows if expected is None else expected))
        self.assertEqual(len(found.rows), count)
        self.assertIsNone(unlike_name(table, found))
        self.assertIs(is_least(table), len(table.rows) == count)
        self.assertIs(is_least(found), True)
        self.assertEqual(least_table(found), found)

    def test_an_empty_class_at_the_root(self):
        self.assert_least([], (0, 0, 0, 0, 0), 1, [])
        self.assert_least([Stop([]), Stop(["a"]), Lead(["b"], [])], (0, 0, 0, 0, 0), 1, [])
        self.assert_least([Thing([], 5), Stop(["a"])], (1, 0, 0, 0, 0), 1, [Thing([], 5)])
        self.assert_least([Other([], []), Stop(["a"])], (1, 0, 0, 0, 0), 1, [Other([], [])])
        self.assert_least([Other([], ["a"])], (0, 0, 0, 0, 0), 1, [])

    def test_a_constant_class_at_the_root(self):
        self.assert_least([Rest([], 5)], (0, 1, 0, 0, 1), 1, None)
        self.assert_least([Rest([], 5), Thing([], 6), Thing(["a"], 5), Rest(["a"], 5)], (1, 1, 0, 0, 1), 1,
                          [Thing([], 6), Rest([], 5)])
        self.assert_least([Lead([], [])], (0, 1, 0, 0, 1), 1, None)
        self.assert_least([Lead([], ["q", "r"])], (0, 1, 0, 0, 1), 1, [Lead([], ["a"])])
        self.assert_least([Lead([], ["q"]), Other([], ["r"])], (1, 1, 0, 0, 1), 1, [Lead([], ["a"]), Other([], ["a"])])
        self.assert_least([Lead([], []), Other([], ["r"])], (1, 1, 0, 0, 1), 1, [Lead([], []), Other([], [])])
        self.assert_least([Lead([], ["q"]), Other([], [])], (1, 1, 0, 0, 1), 1, [Lead([], ["a"]), Other([], [])])

    def test_things(self):
        self.assert_least([Thing(["a"], 1)], (1, 0, 0, 0, 1), 1, None)
        self.assert_least([Thing(["a", "b"], 1), Thing([], 2)], (2, 0, 0, 1, 2), 1, None)
        self.assert_least([Rest([], 1), Stop(["a"])], (0, 1, 1, 0, 1), 1, None)
        self.assert_least([Rest([], 1), Thing(["a"], 1), Thing(["b"], 2)], (2, 1, 0, 0, 1), 1, None)
        self.assert_least([Rest([], 1), Thing(["a"], 1), Rest(["a"], 1), Stop(["b"]), Rest(["b"], 2)],
                          (0, 2, 0, 1, 2), 1, [Rest([], 1), Rest(["b"], 2)])

    def test_stops_for_own_answers_that_are_nothing(self):
        self.assert_least([Rest([], 1), Stop(["a"]), Stop(["b", "c"]), Rest(["d"], 1), Stop(["e"]), Thing(["e", "f"], 1)],
                          (1, 2, 2, 2, 3), 1,
                          [Rest([], 1), Stop(["a"]), Stop(["b"]), Rest(["d"], 1), Thing(["e", "f"], 1)])

    def test_own_answers_that_are_round_or_grow(self):
        rows = [Other(["a"], ["b"]), Other(["b"], ["b"]), Other(["c"], ["a", "a"]), Other(["d"], ["g", "g", "k"]),
                Lead(["g"], ["g", "g"])]
        self.assert_least(rows, (3, 1, 0, 1, 2), 1,
                          [Other(["a"], ["a"]), Other(["b"], ["b"]), Other(["d"], ["g", "a"]), Lead(["g"], ["g", "a"])])
        rows = [Other([], ["z", "k"]), Lead(["z"], ["y", "q"]), Lead(["y"], ["z"]), Other(["x", "x"], ["y", "y"])]
        self.assert_least(rows, (2, 1, 0, 3, 3), 1,
                          [Other([], ["y", "a"]), Lead(["y"], ["y", "a"]), Lead(["z"], ["z", "a"]),
                           Other(["x", "x"], ["y", "a"])])

    def test_leads_round_and_that_grow(self):
        rows = [Lead(["r"], ["s"]), Lead(["s"], ["r"]), Lead(["b", "g"], ["b", "g", "k"]), Rest(["b"], 1)]
        self.assert_least(rows, (0, 3, 0, 4, 4), 1,
                          [Lead(["r"], ["r"]), Lead(["s"], ["s"]), Lead(["b", "g"], ["b", "g", "a"]), Rest(["b"], 1)])

    def test_the_least_name_that_grows(self):
        rows = [Lead(["b"], ["c", "c"]), Lead(["c", "c"], ["c", "c", "k"]), Lead(["d", "a"], ["b"]), Other(["e"], ["b", "b"])]
        expected = [Lead(["b"], ["b", "a"]), Other(["e"], ["b", "a"]), Lead(["c", "c"], ["c", "c", "a"]),
                    Lead(["d", "a"], ["d", "a", "a"])]
        self.assert_least(rows, (1, 1, 0, 5, 4), 1, expected)

    def test_a_class_that_leads_to_itself(self):
        self.assert_least([Thing(["x"], 1), Lead(["x"], [])], (1, 0, 0, 1, 1), 1, None)
        self.assert_least([Thing(["k"], 1), Lead(["x"], []), Lead(["y"], ["x"]), Thing(["y"], 2)], (2, 0, 0, 2, 1), 1,
                          [Thing(["k"], 1), Lead(["x"], []), Lead(["y"], []), Thing(["y"], 2)])
        rows = [Thing(["a", "k"], 1), Lead(["a", "a"], ["a"])]
        self.assert_least(rows, (1, 0, 0, 2, 2), 1, None)
        # All names of one label x and more, but k behind them, have the thing.
        self.assert_least([Rest(["x"], 1), Stop(["x", "k"]), Thing(["x", "x"], 1), Lead(["x", "x"], ["x"])],
                          (1, 1, 1, 2, 2), 1, None)

    def test_several_choices_of_homes(self):
        rows = [Thing(["a", "x"], 1), Thing(["a", "y"], 2), Thing(["b", "x"], 1), Thing(["b", "y"], 2)]
        self.assert_least(rows, (2, 0, 0, 2, 2), 2,
                          [Thing(["a", "x"], 1), Thing(["a", "y"], 2), Lead(["b"], ["a"])])
        rows = [Lead(["b"], ["a"]), Lead(["c", "a"], ["a"]), Lead(["d"], ["c"]), Thing(["a", "k"], 1)]
        # The class of a hangs on the root at a or b, or on that of c; this one at c or d.
        self.assert_least(rows, (1, 0, 0, 5, 3), 6, None)
        rows = [Thing(["a", "x"], 1), Thing(["b", "x"], 1), Lead(["a", "b"], ["b"]), Lead(["b", "a"], ["a"]),
                Thing(["b", "y"], 2)]
        # a and b both at the root, a at b, or b at a.
        self.assert_least(rows, (3, 0, 0, 4, 3), 3, None)

    def test_homes_are_the_least_names(self):
        rows = [Lead(["d", "a"], ["b"]), Thing(["b", "a", "k"], 1), Lead(["c"], ["b", "a"]), Rest(["b"], 4)]
        expected = [Lead(["d", "a"], ["b"]), Thing(["c", "k"], 1), Lead(["b", "a"], ["c"]), Rest(["b"], 4)]
        self.assert_least(rows, (1, 1, 0, 5, 4), 4, expected)
        self.assert_least([Thing(["bb", "a"], 1), Thing(["c", "a"], 1)], (1, 0, 0, 2, 2), 2,
                          [Thing(["bb", "a"], 1), Lead(["c"], ["bb"])])

    def test_very_many_normal_tables(self):
        labels = [one + two for one in "abcdefgh" for two in "abcdefgh"]
        rows = []
        for at in range(29):
            rows += [Lead([labels[at], "x"], [labels[at + 1]]), Lead([labels[at], "y"], [labels[at + 1]])]
        table = Table(rows + [Thing([labels[29], "k"], 1)])
        # Each class but the first hangs on the root, or on the one before it in one of two ways.
        self.assertEqual(count_normal(table), 3 ** 29)
        rows = []
        for at in range(7):
            rows += [Lead(["pqrstuvw"[at], "abcdefgh"[to]], ["pqrstuvw"[to]]) for to in range(8) if to != at]
        rows += [Thing(["pqrstuvw"[at], "k"], at) for at in range(8)]
        # All trees of nine vertices, where nothing hangs on one of them.
        self.assertEqual(count_normal(Table(rows)), count_trees(
            [{at: 1 for at in range(1, 9)}] + [{to: 1 for to in range(1, 9) if to != at} for at in range(1, 8)] + [{}]))

    def test_numbers_of_trees(self):
        for many in range(1, 9):
            full = [{other: 1 for other in range(many) if other != at} for at in range(many)]
            self.assertEqual(count_trees(full), many ** (many - 2) if many > 1 else 1)
        self.assertEqual(count_trees([{0: 5}]), 1)
        self.assertEqual(count_trees([{1: 3, 0: 2}, {1: 7, 2: 4}, {0: 9, 1: 5}]), 12)
        source = 7
        for _ in range(200):
            source, edges = some_graph(source)
            self.assertEqual(count_trees(edges), plain_trees(edges), edges)

    def test_is_least(self):
        self.assertIs(is_least(Table([])), True)
        self.assertIs(is_least(Table([Stop([])])), False)
        # Not normal, and yet of the least number of rows.
        self.assertIs(is_least(Table([Thing(["a"], 1), Other(["b"], ["a"])])), True)

    def test_least_number_of_all_small_tables(self):
        names = [(), ("a",), ("b",)]
        rows = [Thing(name, 1) for name in names] + [Rest(name, 1) for name in names] + [Stop(name) for name in names]
        rows += [kind(name, to) for kind in (Other, Lead) for name in names for to in names + [("a", "b"), ("b", "b")]]
        tables = {}
        for pair in itertools.combinations(rows, 2):
            try:
                table = Table(pair)
            except ValueError:
                continue
            least = least_table(table)
            self.assertLessEqual(len(least.rows), 2)
            self.assertIsNone(unlike_name(table, least))
            tables.setdefault(repr([vars(row) for row in least.rows]) + repr(least_parts(table)), []).append(table)
        some = [found[0] for found in tables.values()]
        # Tables with other least tables are unlike.
        for one, two in zip(some, some[1:] + some[:1]):
            self.assertIsNotNone(unlike_name(one, two))


def some_graph(source):
    """Return the next number of a simple row of such, and a graph of at most five vertices that are all come to."""
    while True:
        numbers = []
        for _ in range(14):
            source = (source * 1103515245 + 12345) & 0x7fffffff
            numbers.append(source >> 16)
        many = numbers[0] % 5 + 1
        edges = [{} for _ in range(many)]
        for one, two in zip(numbers[1::2], numbers[2::2]):
            edges[one % many][two % many] = edges[one % many].get(two % many, 0) + 1
        reached = {0}
        for _ in range(many):
            reached |= {after for before in reached for after in edges[before]}
        if len(reached) == many:
            return source, edges


def plain_trees(edges):
    ahead = [[(before, edges[before][after]) for before in range(len(edges)) if after in edges[before]]
             for after in range(1, len(edges))]
    total = 0
    for choice in itertools.product(*ahead):
        number = 1
        for vertex, (before, many) in enumerate(choice, 1):
            number *= many
            steps = 0
            while vertex > 0 and steps < len(edges):
                vertex = choice[vertex - 1][0]
                steps += 1
            if vertex > 0:
                number = 0
        total += number
    return total


class OnlyTest(unittest.TestCase):
    def assert_only(self, rows, answer, expected):
        for form in (tuple(answer), list(answer)):
            self.assertEqual(only_table(Table(rows), form), Table(expected))

    def test_answers(self):
        rows = [Thing([], 1), Rest(["a"], 1), Thing(["a", "b"], 2), Lead(["r"], ["r"]), Lead(["g"], ["g", "g"]),
                Other(["r"], ["r", "k"]), Other(["s"], ["g", "k"])]
        self.assert_only(rows, ("thing", 1), [Thing([], 1), Rest(["a"], 1), Stop(["a", "b"])])
        self.assert_only(rows, ("thing", 2), [Thing(["a", "b"], 1)])
        self.assert_only(rows, ("thing", 3), [])
        self.assert_only(rows, ROUND, [Thing(["r"], 1), Rest(["r"], 1)])
        self.assert_only(rows, GROWS, [Thing(["s"], 1), Rest(["g"], 1)])
        self.assert_only(rows, NOTHING, [Rest([], 1), Thing(["a"], 1), Rest(["a", "b"], 1), Thing(["g"], 1), Stop(["r"]),
                                         Rest(["s"], 1)])

    def test_one_answer_for_all_names(self):
        self.assert_only([], NOTHING, [Thing([], 1), Rest([], 1)])
        self.assert_only([], ROUND, [])
        self.assert_only([Rest([], 4), Thing(["a"], 4)], ("thing", 4), [Rest([], 1), Thing(["a"], 1)])
        self.assert_only([Rest([], 4), Thing(["a"], 4), Rest(["a"], 4)], ("thing", 4), [Rest([], 1)])
        self.assert_only([Rest([], 4), Thing(["a"], 5)], ("thing", 4), [Rest([], 1), Stop(["a"])])
        self.assert_only([Lead([], [])], ROUND, [Rest([], 1)])
        self.assert_only([Lead([], ["a"]), Other([], ["a"])], GROWS, [Thing([], 1), Rest([], 1)])

    def test_classes_that_this_answer_makes_alike(self):
        rows = [Thing(["a", "k"], 1), Thing(["b", "k"], 1), Thing(["a", "l"], 2)]
        self.assert_only(rows, ("thing", 1), [Thing(["a", "k"], 1), Lead(["b"], ["a"])])

    def test_what_is_no_answer(self):
        table = Table([Thing(["a"], 1)])
        wrong = odd_things() + [0, [], (), "thing", "round", ("thing",), ("round", 1), ("nothing", None), ("Round",),
                                ("thing", 1, 1), [1, "thing"], ("things", 1), (("nothing",),), ["grow"], ("",), (0,)]
        wrong += [("thing", number) for number in no_numbers()] + [[word] for word in odd_things()]
        for answer in wrong:
            with self.assertRaises(BadAnswer) as caught:
                only_table(table, answer)
            self.assertEqual((vars(caught.exception), caught.exception.told()), ({}, "refused badanswer"))


class FlatTest(unittest.TestCase):
    def assert_flat(self, rows, expected):
        """`expected` has the rows of the flat table, or is None if there is none."""
        found = flat_table(Table(rows))
        if expected is None:
            self.assertIsNone(found)
            return
        self.assertEqual(found, Table(expected))
        self.assertIsNone(unlike_name(Table(rows), found))

    def test_flat_tables(self):
        self.assert_flat([], [])
        self.assert_flat([Thing([], 1), Rest([], 2), Stop(["a"]), Stop([])], [Thing([], 1), Rest([], 2), Stop(["a"])])
        self.assert_flat([Lead(["x"], ["y"]), Thing(["y", "z"], 1), Rest(["y"], 2)],
                         [Rest(["x"], 2), Rest(["y"], 2), Thing(["x", "z"], 1), Thing(["y", "z"], 1)])
        self.assert_flat([Other([], ["a"]), Other(["a"], ["b"]), Thing(["b"], 3)],
                         [Thing([], 3), Thing(["a"], 3), Thing(["b"], 3)])
        self.assert_flat([Lead(["a"], ["b"]), Other(["c"], ["d"])], [])

    def test_stop_rows_have_the_least_names(self):
        self.assert_flat([Rest([], 1), Stop(["a", "b"]), Stop(["a", "c"])], [Rest([], 1), Stop(["a"])])
        self.assert_flat([Rest([], 1), Stop(["z", "b"]), Lead(["y"], ["z"])], [Rest([], 1), Stop(["y"]), Stop(["z"])])
        self.assert_flat([Rest([], 1), Stop(["a"]), Thing(["a", "b", "c"], 1), Rest(["d"], 1), Stop(["d", "e", "f"])],
                         [Rest([], 1), Thing(["a", "b", "c"], 1), Rest(["d"], 1), Stop(["d", "e"])])

    def test_no_flat_table(self):
        self.assert_flat([Thing(["x"], 1), Lead(["x"], [])], None)
        self.assert_flat([Thing(["a", "k"], 1), Lead(["a", "a"], ["a"])], None)
        self.assert_flat([Other(["a"], ["a"])], None)
        self.assert_flat([Other([], [])], None)
        self.assert_flat([Other(["a"], ["g", "g"]), Lead(["g"], ["g", "g"])], None)
        for target in ([], ["a"]):
            self.assert_flat([Lead([], target)], None)
        self.assert_flat([Lead(["b"], ["b"]), Thing(["c"], 1)], None)
        self.assert_flat([Lead(["b"], ["b", "b"]), Thing(["c"], 1)], None)

    def test_leads_round_to_nothing(self):
        self.assert_flat([Lead(["a"], ["b", "q"]), Thing(["a"], 2), Rest([], 1)],
                         [Rest([], 1), Thing(["a"], 2), Rest(["a"], 1)])
        self.assert_flat([Lead(["a"], []), Thing(["b", "c"], 1)], None)
        self.assert_flat([Lead(["a"], []), Lead(["b"], ["a"])], [])

    def test_numbers_of_rows(self):
        for rows, things in ((1000, 999), (999, 998), (1001, 1000), (1500, 1499)):
            table = Table(wide(things))
            if rows > 1000:
                with self.assertRaises(Large) as caught:
                    flat_table(table)
                self.assertEqual(caught.exception.count, rows)
            else:
                found = flat_table(table)
                self.assertEqual(len(found.rows), rows)
                self.assertEqual(flat_table(found), found)
                self.assertIsNone(unlike_name(found, table))

    def test_numbers_of_rows_of_all_kinds(self):
        labels = [one + two for one in "abcdefgh" for two in "abcdefgh"]
        # Below b: a Rest, three things and two stops; all of this, with a thing for each label itself, 32 times.
        below = [Rest(["b"], 1)] + [Thing(["b", one], 2) for one in "xyz"] + [Stop(["b", one]) for one in "vw"]
        rows = below + [Lead(["c", one], ["b"]) for one in labels[:16]] + [Thing(["c", one], 3) for one in labels[:16]]
        self.assertEqual(len(flat_table(Table(rows)).rows), 17 * 6 + 16)
        rows += [Lead([one], ["c"]) for one in labels[:16]]
        for more in ([], [Thing([], 7)], [Rest([], 7), Thing([], 8)]):
            with self.assertRaises(Large) as caught:
                flat_table(Table(rows + more))
            self.assertEqual(caught.exception.count, 17 * (16 * 7) + 6 + len(more))

    def test_very_many_rows(self):
        labels = [one + two for one in "abcdefgh" for two in "abcdefgh"]
        rows = [Lead([labels[at], one], [labels[at + 1]]) for at in range(29) for one in "xy"]
        with self.assertRaises(Large) as caught:
            flat_table(Table(rows + [Rest([labels[29]], 1)]))
        self.assertEqual(caught.exception.count, 2 ** 30 - 1)
        # None comes ahead of it.
        self.assertIsNone(flat_table(Table(rows + [Rest([labels[29]], 1), Other(["q"], ["q"])])))
        self.assertIsNone(flat_table(Table(rows + [Lead([labels[29], "k"], [labels[0]]), Rest([labels[29]], 1)])))


def wide(things):
    """A table that is alike to a flat one with so many things and one Rest."""
    labels = "abcdefghi"
    rows = [Rest(["z"], 5), Thing(["q", "a", "k"], 1)]
    # Below each next label twice as many things as below the last one, 511 in all.
    for at in range(1, 9):
        rows += [Lead(["q", labels[at], one], ["q", labels[at - 1]]) for one in "xy"]
    left = things - 511
    while left > 0:
        at = min(8, left.bit_length() - 1)
        rows.append(Lead(["r", "pq"[len(rows) % 2] + labels[len(rows) % 9] + labels[at]], ["q", labels[at]]))
        left -= 2 ** at
    return rows


class ArgumentsTest(unittest.TestCase):
    def test_parameters_by_their_names(self):
        table = Table([Thing(["a", "k"], 1), Thing(["b", "k"], 1)])
        before = repr(vars(table.tree))
        self.assertEqual((least_count(table=table), least_parts(table=table), count_normal(table=table)),
                         (2, (1, 0, 0, 2, 2), 2))
        self.assertEqual(least_table(table=table), Table([Thing(["a", "k"], 1), Lead(["b"], ["a"])]))
        self.assertIs(is_least(table=table), True)
        self.assertEqual(only_table(answer=["thing", 1], table=table), least_table(table))
        self.assertEqual(flat_table(table=table), table)
        self.assertEqual(repr(vars(table.tree)), before)
        self.assertIs(least_parts(table).__class__, tuple)


if __name__ == "__main__":
    unittest.main()
