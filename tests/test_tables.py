"""Points 2, 3 and 5: tables, their order, their errors and their nodes."""

import itertools
import unittest

from lednames.errors import BadTable
from lednames.tables import Lead, Other, Rest, Stop, Table, Thing, nodes_of
from tests.wrong import no_rows


class OrderTest(unittest.TestCase):
    def test_rows_in_the_order_of_names_and_kinds(self):
        rows = [
            Thing([], 1), Lead(["aa"], []), Thing(["b"], 9), Lead(["b"], ["x"]), Stop(["b"]),
            Other(["z"], ["x"]), Rest(["z"], -4), Stop(["z"]), Thing(["a", "z"], 1), Thing(["z", "a"], 2),
            Thing(["z", "b", "b"], 0),
        ]
        for turned in (rows, rows[::-1], rows[5:] + rows[:5], rows[1::2] + rows[::2]):
            self.assertEqual(Table(turned).rows, tuple(rows))
            self.assertIs(Table(turned).rows.__class__, tuple)

    def test_shorter_names_come_first_then_as_strings(self):
        names = [(), ("a",), ("aa",), ("ab",), ("b",), ("zz",), ("a", "b"), ("a", "ba"), ("aa", "a"), ("b", "a"),
                 ("a", "a", "a"), ("b", "a", "a")]
        table = Table([Stop(name) for name in names[::-1]])
        self.assertEqual([row.name for row in table.rows], names)

    def test_kinds_of_one_name(self):
        for first, second in ((Thing(["a"], 1), Other(["a"], [])),):
            third, fourth, last = Lead(["a"], []), Rest(["a"], 1), Stop(["a"])
            for kept in ([first, third, last], [first, fourth, last], [second, third, last], [second, fourth, last]):
                for turned in itertools.permutations(kept):
                    self.assertEqual(list(Table(turned).rows), kept)

    def test_each_row_only_once(self):
        rows = [Thing(["a"], 1), Stop(["b"])]
        again = [Stop(["b"]), Thing(["a"], 1)]
        self.assertEqual(Table(rows + again + rows).rows, tuple(rows))
        self.assertEqual(Table(rows * 20000).rows, tuple(rows))

    def test_lists_and_tuples(self):
        rows = [Thing(["a"], 1), Stop(["b"])]
        self.assertEqual(Table(rows), Table(tuple(rows)))
        self.assertEqual(Table(rows=rows), Table(rows[::-1]))
        self.assertEqual(Table([]).rows, ())
        self.assertEqual(Table(()), Table([]))

    def test_lists_are_neither_kept_nor_changed(self):
        rows = [Stop(["b"]), Stop(["a"])]
        table = Table(rows)
        self.assertEqual(rows, [Stop(["b"]), Stop(["a"])])
        rows.append(Stop(["c"]))
        self.assertEqual(table.rows, (Stop(["a"]), Stop(["b"])))

    def test_equality(self):
        table = Table([Stop(["a"])])
        self.assertIs(table == Table([Stop(["a"]), Stop(["a"])]), True)
        self.assertIs(table == Table([Stop(["b"])]), False)
        self.assertIs(table != Table([]), True)
        for other in (None, 5, [Stop(["a"])], (Stop(["a"]),), table.rows, Stop(["a"])):
            self.assertIs(table == other, False)
            self.assertIs(other == table, False)

    def test_rows_of_a_table_may_be_handed_in(self):
        table = Table([Stop(["b"]), Lead(["a"], ["b"])])
        self.assertEqual(Table(table.rows), table)


class BadTableTest(unittest.TestCase):
    def assert_bad(self, what, name, rows):
        for turned in (rows, rows[::-1], tuple(rows)):
            with self.assertRaises(BadTable) as caught:
                Table(turned)
            self.assertEqual((caught.exception.what, caught.exception.name), (what, name))

    def test_what_is_no_row(self):
        for wrong in no_rows():
            self.assert_bad("row", None, [wrong])
            self.assert_bad("row", None, [Stop(["a"]), wrong])

    def test_no_row_comes_ahead_of_all(self):
        self.assert_bad("row", None, [Thing([], 1), Thing([], 2), Stop(["a"]), 5])
        self.assert_bad("row", None, [Lead([], []), Stop(["a"]), Table([])])

    def test_twice(self):
        pairs = [
            (Thing(["a"], 1), Thing(["a"], 2)), (Other(["a"], []), Other(["a"], ["b"])),
            (Lead(["a"], []), Lead(["a"], ["b"])), (Rest(["a"], 1), Rest(["a"], -1)),
        ]
        for one, other in pairs:
            self.assert_bad("twice", ("a",), [one, other])
            self.assert_bad("twice", ("a",), [one, other, one, other])
            self.assert_bad("twice", ("a",), [one, other, Stop(["b"]), Stop([])])

    def test_both(self):
        self.assert_bad("both", ("a",), [Thing(["a"], 1), Other(["a"], [])])
        self.assert_bad("both", ("a",), [Lead(["a"], []), Rest(["a"], 1)])
        self.assert_bad("both", (), [Lead([], []), Rest([], 1)])
        self.assert_bad("both", (), [Thing([], 1), Other([], ["a"]), Stop([])])

    def test_under(self):
        for row in (Thing(["x", "y"], 1), Other(["x", "y"], []), Lead(["x", "y"], []), Rest(["x", "y"], 1),
                    Stop(["x", "y"])):
            self.assert_bad("under", ("x", "y"), [Lead(["x"], []), row])
            self.assert_bad("under", ("x", "y"), [Lead([], ["x"]), row])
        deep = ["x"] * 12
        self.assert_bad("under", tuple(deep), [Lead(["x"], []), Stop(deep)])
        self.assert_bad("under", ("x",), [Lead([], []), Stop(["x"])])

    def test_rows_that_go_together(self):
        good = [
            [Thing(["a"], 1), Lead(["a"], [])], [Other(["a"], []), Lead(["a"], [])],
            [Thing(["a"], 1), Rest(["a"], 1)], [Other(["a"], []), Rest(["a"], 1)], [Lead(["a"], []), Stop(["a"])],
            [Lead(["a"], []), Stop([]), Stop(["aa"]), Rest([], 1)], [Lead(["a"], ["a", "b"]), Stop(["b", "a"])],
            [Thing(["a"], 1), Thing(["b"], 1), Rest(["a"], 1)], [Lead([], []), Thing([], 1), Stop([])],
            [Rest(["a"], 1), Lead(["a", "b"], []), Stop(["a", "c"])],
        ]
        for rows in good:
            self.assertEqual(len(Table(rows).rows), len(rows))

    def test_the_first_reason_of_a_name(self):
        twice = [Thing(["x", "y"], 1), Thing(["x", "y"], 2)]
        both = [Other(["x", "y"], [])]
        under = [Lead(["x"], [])]
        self.assert_bad("twice", ("x", "y"), twice + both + under)
        self.assert_bad("twice", ("x", "y"), twice + under)
        self.assert_bad("both", ("x", "y"), twice[:1] + both + under)
        self.assert_bad("twice", ("a",), [Rest(["a"], 1), Rest(["a"], 2), Lead(["a"], [])])

    def test_the_first_name(self):
        self.assert_bad("under", ("x", "y"), [Lead(["x"], []), Stop(["x", "y"]), Thing(["y", "x"], 1),
                                              Thing(["y", "x"], 2)])
        self.assert_bad("both", ("z",), [Thing(["z"], 1), Other(["z"], []), Thing(["a", "b"], 1),
                                         Thing(["a", "b"], 2)])
        self.assert_bad("twice", ("aa",), [Rest(["b"], 1), Rest(["b"], 2), Rest(["aa"], 1), Rest(["aa"], 2)])
        self.assert_bad("under", ("x", "a"), [Lead(["x"], []), Stop(["x", "a"]), Stop(["x", "b"])])

    def test_a_failed_call_changes_nothing(self):
        rows = [Stop(["b"]), Lead([], []), Stop(["a"])]
        self.assert_bad("under", ("a",), rows)
        self.assertEqual(rows, [Stop(["b"]), Lead([], []), Stop(["a"])])


class NodesTest(unittest.TestCase):
    def test_the_root_is_always_one(self):
        self.assertEqual(nodes_of(Table([])), [()])
        self.assertEqual(nodes_of(table=Table([Lead([], ["a"])])), [()])

    def test_beginnings_of_names_but_not_of_targets(self):
        table = Table([Lead(["x", "y", "z"], ["t", "u"]), Other(["b"], ["v"]), Stop(["x", "a"])])
        self.assertEqual(nodes_of(table), [(), ("b",), ("x",), ("x", "a"), ("x", "y"), ("x", "y", "z")])

    def test_order(self):
        names = [["b", "a", "z"], ["aa", "c"], ["a", "d"], ["ab"], ["b", "a", "b"]]
        nodes = nodes_of(Table([Stop(name) for name in names]))
        self.assertEqual(nodes, [
            (), ("a",), ("aa",), ("ab",), ("b",), ("a", "d"), ("aa", "c"), ("b", "a"), ("b", "a", "b"),
            ("b", "a", "z")])

    def test_the_list_is_new(self):
        table = Table([Stop(["a"])])
        nodes_of(table).append("mine")
        self.assertEqual(nodes_of(table), [(), ("a",)])
        self.assertEqual({node.__class__ for node in nodes_of(table)}, {tuple})

    def test_sixty_rows_of_twelve_labels(self):
        letters = "abcdefghij"
        names = [[letters[at // 10] + letters[at - at // 10 * 10]] + ["k"] * 11 for at in range(60)]
        nodes = nodes_of(Table([Stop(name) for name in names]))
        self.assertEqual(len(nodes), 1 + 60 * 12)
        self.assertEqual(nodes, sorted(nodes, key=lambda name: (len(name), name)))
        self.assertIn(tuple(names[59][:7]), nodes)


if __name__ == "__main__":
    unittest.main()
