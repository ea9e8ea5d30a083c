"""Point 10: tables that are alike, the least name with unlike answers, and idle rows."""

import unittest

from lednames.likeness import idle_rows, unlike_name
from lednames.tables import Lead, Other, Rest, Stop, Table, Thing


class UnlikeTest(unittest.TestCase):
    def assert_unlike(self, rows, others, expected):
        """`expected` is a name's text, or None."""
        if expected is not None:
            expected = tuple(expected.split())
        self.assertEqual(unlike_name(Table(rows), Table(others)), expected)
        self.assertEqual(unlike_name(Table(others), Table(rows)), expected)

    def test_tables_that_are_alike(self):
        self.assert_unlike([], [], None)
        self.assert_unlike([], [Stop([]), Stop(["a", "b"]), Lead(["c"], []), Other(["d"], ["a"])], None)
        self.assert_unlike([Rest([], 1)], [Rest([], 1), Thing(["a"], 1), Rest(["a"], 1)], None)
        self.assert_unlike([Lead(["x"], ["x", "x"])], [Lead(["x"], ["x", "k", "q"])], None)
        self.assert_unlike([Lead(["x"], ["x"]), Lead(["y"], ["x"])], [Lead(["x"], ["y"]), Lead(["y"], ["x"])], None)
        self.assert_unlike([Lead([], [])], [Lead([], [])], None)
        self.assert_unlike([Thing(["a", "k"], 1), Thing(["b", "k"], 1)], [Thing(["b", "k"], 1), Lead(["a"], ["b"])], None)
        self.assert_unlike([Thing(["k"], 1), Lead(["x"], [])],
                           [Thing(["k"], 1), Thing(["x", "k"], 1), Lead(["x", "x"], ["x"])], None)

    def test_the_root(self):
        self.assert_unlike([Thing([], 1)], [], "")
        self.assert_unlike([Thing([], 1), Thing(["a"], 1)], [Thing([], 2), Thing(["a"], 3)], "")
        self.assert_unlike([Other([], [])], [Other([], ["a"])], "")
        self.assert_unlike([Other([], [])], [Other([], ["a"]), Other(["a"], [])], "a")

    def test_names_without_an_end(self):
        self.assert_unlike([Lead([], [])], [Lead([], ["a"])], "a")
        self.assert_unlike([Lead(["x"], ["x"])], [Lead(["x"], ["y"]), Lead(["y"], ["x"])], "y a")
        self.assert_unlike([Lead(["x"], ["x"])], [Lead(["x"], ["x", "b"])], "x a")
        self.assert_unlike([Other(["a"], ["a"])], [Other(["a"], ["x", "k"]), Lead(["x"], ["x"])], "x a")
        self.assert_unlike([Other(["a"], ["x", "k"]), Lead(["x"], ["x"])],
                           [Other(["a"], ["x", "k"]), Lead(["x"], ["x", "x"])], "a")

    def test_shorter_names_are_less(self):
        self.assert_unlike([Thing(["a", "a"], 1), Thing(["b"], 1)], [], "b")
        self.assert_unlike([Thing(["b", "a"], 1), Thing(["a", "b"], 1)], [], "a b")
        self.assert_unlike([Thing(["ab"], 1), Thing(["b"], 1)], [], "ab")
        self.assert_unlike([Thing(["c"], 1), Thing(["ab"], 2)], [Thing(["c"], 2), Thing(["ab"], 1)], "ab")

    def test_labels_that_stand_in_no_row(self):
        self.assert_unlike([Rest([], 1)], [Rest([], 2)], "a")
        self.assert_unlike([Rest([], 1), Stop(["a"])], [Rest([], 2), Stop(["a"])], "b")
        self.assert_unlike([Rest([], 1), Stop(["a"]), Stop(["c"])], [Rest([], 2), Stop(["a"]), Stop(["b"]), Stop(["c"])],
                           "b")
        self.assert_unlike([Rest([], 1), Stop(["b"])], [Rest([], 2), Stop(["b"])], "a")
        self.assert_unlike([Rest(["c"], 1), Lead(["d"], ["b"])], [Rest(["c"], 2), Other(["e"], ["a"])], "c a")
        self.assert_unlike([Rest(["b"], 1), Stop(["b", "c"]), Stop(["b", "a"])],
                           [Rest(["b"], 2), Stop(["b", "c"]), Stop(["b", "a"])], "b b")

    def test_the_label_of_no_row_in_order(self):
        letters = "abcdefghijklmnopqrstuvwxyz"
        for known, free in ((letters, "aa"), (letters[1:], "a"), (letters[:25], "z"), (letters[:3] + letters[4:], "d")):
            rows = [Stop([label]) for label in known]
            self.assert_unlike(rows + [Rest([], 1)], rows + [Rest([], 2)], free)
        rows = [Stop([label]) for label in letters]
        self.assert_unlike(rows + [Rest([], 1), Stop(["aa"])], rows + [Rest([], 2)], "aa")
        # A label that stands only in a target is one of the labels as well.
        rows += [Lead(["q", one], ["a" + one]) for one in letters]
        self.assert_unlike(rows + [Rest([], 1)], rows + [Rest([], 2)], "aa")
        rows += [Stop(["a" + one]) for one in letters]
        self.assert_unlike(rows + [Rest([], 1)], rows + [Rest([], 2)], "ba")
        rows += [Stop(["ba"])]
        self.assert_unlike(rows + [Rest([], 1)], rows + [Rest([], 2)], "bb")
        self.assert_unlike(rows + [Rest(["c"], 1)], rows + [Rest(["c"], 2)], "c a")

    def test_labels_of_targets_are_labels_of_rows(self):
        self.assert_unlike([Rest([], 1), Lead(["b"], ["a", "c"])], [Rest([], 2), Lead(["b"], ["a", "c"])], "a")
        self.assert_unlike([Rest([], 1), Stop(["a"]), Other(["c"], ["b"])], [Rest([], 2), Stop(["a"]), Stop(["c"])], "b")
        self.assert_unlike([Rest([], 1), Stop(["a"]), Other(["c"], ["d"])], [Rest([], 2), Stop(["a"]), Stop(["c"])], "b")

    def test_unlike_only_at_long_names(self):
        three = [Lead(["a", "x"], ["b"]), Lead(["b", "x"], ["c"]), Lead(["c", "x"], ["a"])]
        rows = three + [Thing([one, "k"], 1) for one in "abc"]
        self.assert_unlike(rows, rows[:-1] + [Thing(["c", "k"], 2)], "c k")
        long = [Lead(["x"] * 12, ["y"] * 12), Lead(["y"] * 12, []), Thing(["x"] * 11 + ["k"], 1)]
        self.assert_unlike(long + [Thing(["y"] * 5 + ["k"], 2)], long + [Thing(["y"] * 5 + ["k"], 3)], "y y y y y k")

    def test_rings_of_unlike_lengths(self):
        def ring(many):
            rows = [Lead(["x"] * 12, ["y"]), Lead(["y"] + ["x"] * many, ["y"])]
            return rows + [Thing(["y"] + ["x"] * 5 + ["k"], 1)]
        self.assert_unlike(ring(6), ring(7), "y" + " x" * 11 + " k")
        self.assert_unlike(ring(6), ring(6), None)

    def test_unlike_only_at_a_name_of_dozens_of_labels(self):
        def ring(labels):
            """The label x goes round eleven places for each of these labels; at one of all, k has a thing."""
            rows = [Lead([one] + ["x"] * 11, [two]) for one, two in zip(labels, labels[1:] + labels[:1])]
            return rows + [Thing([labels[0]] + ["x"] * 5 + ["k"], 1)]
        rows = ring("bcde") + ring("fgh") + ring("ij")
        found = "a" + " x" * (33 + 5) + " k"
        self.assert_unlike(rows + [Lead(["a"], ["b"])], rows + [Lead(["a"], ["f"])], found)
        self.assert_unlike(rows + [Lead(["a"], ["b"])], rows + [Lead(["a"], ["i"])], "a" + " x" * (22 + 5) + " k")
        self.assert_unlike(rows + [Lead(["a"], ["b"])], rows + [Lead(["a"], ["b"] + ["x"] * 44)], None)
        self.assert_unlike(rows + [Lead(["a"], ["b"])], rows + [Lead(["a"], ["i"] + ["x"] * 22)],
                           "a" + " x" * (22 + 5) + " k")

    def test_towers(self):
        labels = [one + two for one in "abcdefgh" for two in "abcdefgh"][:59]
        rows = [Lead([labels[at]], [labels[at + 1]] * 2) for at in range(58)]
        down = [Lead([label], []) for label in labels]
        self.assert_unlike(rows + [Lead([labels[58]], []), Thing(["z"], 1)], down + [Thing(["z"], 1)], None)
        self.assert_unlike(rows + [Lead([labels[58]], []), Thing(["z"], 1)], down + [Thing(["z"], 2)], "z")
        self.assert_unlike(rows + [Lead([labels[58]], ["z"])], down + [Stop(["z"])], None)

    def test_arguments(self):
        one = Table([Thing(["a"], 1)])
        other = Table([Thing(["a"], 2), Stop(["b"])])
        before = (repr(vars(one.tree)), repr(vars(other.tree)))
        self.assertEqual(unlike_name(other=other, table=one), ("a",))
        self.assertIsNone(unlike_name(one, one))
        self.assertEqual(idle_rows(table=other), [Stop(["b"])])
        self.assertEqual((repr(vars(one.tree)), repr(vars(other.tree))), before)


class IdleTest(unittest.TestCase):
    def assert_idle(self, rows, numbers):
        """The numbers of the idle rows, as they are given here; the rows are in the table's order."""
        idle = idle_rows(Table(rows))
        self.assertEqual(idle, [rows[number] for number in numbers])
        for row in rows:
            rest = Table([other for other in rows if other != row])
            self.assertEqual(row in idle, unlike_name(Table(rows), rest) is None)

    def test_stops(self):
        self.assert_idle([Stop([]), Thing(["a"], 1), Stop(["c"]), Stop(["a", "b"])], [0, 2, 3])
        self.assert_idle([Rest([], 1), Stop(["a"]), Stop(["c"]), Stop(["c", "d"])], [2, 3])
        self.assert_idle([Rest([], 1), Stop([]), Stop(["c", "d"])], [1])
        self.assert_idle([Rest([], 1), Thing(["c"], 1), Stop(["c"]), Stop(["c", "d"]), Thing(["e"], 1)], [2, 3])

    def test_things_and_rests_are_never_idle(self):
        self.assert_idle([Thing([], 1), Rest([], 1), Thing(["a"], 1), Rest(["a"], 1), Rest(["b"], 1)], [])

    def test_things_and_rests_that_only_together_change_nothing(self):
        self.assert_idle([Rest([], 1), Thing(["a"], 1), Rest(["a"], 1)], [])

    def test_others(self):
        self.assert_idle([Other([], ["a"]), Other(["a"], ["q"]), Other(["b"], ["b"]), Other(["d"], ["k"]),
                          Thing(["k"], 1)], [0, 1])
        self.assert_idle([Rest([], 1), Other(["a"], ["b"]), Stop(["b"])], [])
        self.assert_idle([Rest([], 1), Other(["a"], ["b"]), Stop(["b"]), Thing(["a", "c"], 1)], [1])
        self.assert_idle([Rest([], 1), Other(["a"], ["q"])], [])

    def test_leads(self):
        self.assert_idle([Lead(["a"], ["b"]), Lead(["c"], ["d"]), Thing(["d", "e"], 1)], [0])
        self.assert_idle([Rest([], 1), Lead(["a"], ["b"]), Stop(["b"])], [])
        self.assert_idle([Rest([], 1), Thing(["a"], 1), Lead(["a"], ["b"]), Stop(["b"])], [2])
        self.assert_idle([Lead(["a"], ["b"]), Lead(["b"], ["a"])], [])
        self.assert_idle([Lead(["a"], []), Lead(["b"], ["a", "b"])], [])
        self.assert_idle([Lead(["a"], []), Lead(["b"], ["a", "c"]), Thing(["c"], 1)], [1])
        self.assert_idle([Lead(["a"], []), Lead(["b"], [])], [0, 1])

    def test_new_lists_in_the_order_of_the_table(self):
        table = Table([Stop(["b"]), Stop(["a", "a"]), Stop(["a"])])
        idle_rows(table).clear()
        self.assertEqual(idle_rows(table), [Stop(["a"]), Stop(["b"]), Stop(["a", "a"])])
        self.assertEqual(idle_rows(Table([])), [])


if __name__ == "__main__":
    unittest.main()
