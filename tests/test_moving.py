"""Point 6: single moves and walks."""

import unittest

from lednames.errors import NoName
from lednames.moving import next_of, walk_of
from lednames.tables import Lead, Other, Rest, Stop, Table, Thing
from tests.wrong import no_names

NOTHING = ("nothing",)


class NextTest(unittest.TestCase):
    def assert_next(self, rows, cases):
        table = Table(rows)
        for text, result in cases:
            name = text.split()
            self.assertEqual(next_of(table, name), result, text)
            self.assertEqual(next_of(table, tuple(name)), result, text)

    def test_table_without_rows(self):
        self.assert_next([], [("", NOTHING), ("a", NOTHING), ("a b c", NOTHING)])

    def test_things_and_rests(self):
        self.assert_next([Thing([], 0), Thing(["a", "b"], 1), Rest(["a"], -2)], [
            ("", ("thing", 0)), ("a", NOTHING), ("a b", ("thing", 1)), ("a c", ("thing", -2)),
            ("a c d", ("thing", -2)), ("a b c", NOTHING), ("b", NOTHING)])

    def test_rest_at_the_root(self):
        self.assert_next([Rest([], 3), Stop(["a", "b"])], [
            ("", NOTHING), ("a", NOTHING), ("a b", NOTHING), ("a c", NOTHING), ("b", ("thing", 3)),
            ("b a b", ("thing", 3))])

    def test_stops_are_known_and_have_nothing(self):
        self.assert_next([Rest([], 3), Stop(["a"])], [
            ("a", NOTHING), ("a a", NOTHING), ("aa", ("thing", 3))])

    def test_a_lead_leads_names_below_it_alone(self):
        self.assert_next([Lead(["x"], ["y", "z"]), Thing(["x"], 1)], [
            ("x", ("thing", 1)), ("x a", ("to", ("y", "z", "a"))), ("x x x", ("to", ("y", "z", "x", "x"))),
            ("y x", NOTHING)])
        self.assert_next([Lead(["x", "y"], ["x"])], [("x", NOTHING), ("x y", NOTHING), ("x y z", ("to", ("x", "z")))])

    def test_names_that_end_at_a_lead(self):
        self.assert_next([Lead(["x"], ["y"])], [("x", NOTHING)])
        self.assert_next([Lead(["x"], ["y"]), Stop(["x"])], [("x", NOTHING)])
        self.assert_next([Lead(["x"], ["y"]), Other(["x"], ["z"])], [("x", ("to", ("z",)))])

    def test_leads_to_themselves_and_to_the_root(self):
        self.assert_next([Lead(["x"], ["x"]), Lead(["y"], []), Lead(["z"], ["z", "z"])], [
            ("x a", ("to", ("x", "a"))), ("y a b", ("to", ("a", "b"))), ("z a", ("to", ("z", "z", "a")))])

    def test_a_lead_at_the_root(self):
        self.assert_next([Lead([], ["a"])], [("", NOTHING), ("a", ("to", ("a", "a"))), ("b c", ("to", ("a", "b", "c")))])
        self.assert_next([Lead([], []), Thing([], 4)], [("", ("thing", 4)), ("a", ("to", ("a",)))])

    def test_others_lead_one_name_alone(self):
        self.assert_next([Other(["x"], ["y", "z"]), Rest(["x"], 5), Other([], ["x"])], [
            ("x", ("to", ("y", "z"))), ("x a", ("thing", 5)), ("", ("to", ("x",))), ("y", NOTHING)])
        self.assert_next([Other(["x"], ["x"]), Other(["y"], [])], [("x", ("to", ("x",))), ("y", ("to", ()))])

    def test_names_of_many_labels(self):
        table = Table([Lead(["x"], ["y"] * 12), Rest(["y"] * 12, 1)])
        self.assertEqual(next_of(table, ["x"] * 200), ("to", ("y",) * 12 + ("x",) * 199))
        self.assertEqual(next_of(table, ["y"] * 200), ("thing", 1))

    def test_arguments_are_not_changed(self):
        table = Table([Lead(["x"], ["y"])])
        name = ["x", "k"]
        next_of(table, name)
        walk_of(table, name, 5)
        self.assertEqual(name, ["x", "k"])
        self.assertEqual(table, Table([Lead(["x"], ["y"])]))

    def test_what_is_no_name(self):
        table = Table([Lead(["a"], ["b"])])
        for wrong in no_names():
            for call in (lambda: next_of(table, wrong), lambda: walk_of(table, wrong, 3)):
                with self.assertRaises(NoName) as caught:
                    call()
                self.assertIs(caught.exception.name, wrong)

    def test_parameters_by_their_names(self):
        table = Table([Lead(["x"], [])])
        self.assertEqual(next_of(name=["x", "x"], table=table), ("to", ("x",)))
        self.assertEqual(walk_of(most=1, name=["x", "x"], table=table), [("x", "x")])


class WalkTest(unittest.TestCase):
    def test_a_walk_to_an_answer(self):
        table = Table([Lead(["x"], ["y", "y"]), Lead(["y"], [])])
        walk = [("x", "k"), ("y", "y", "k"), ("y", "k"), ("k",)]
        for most in (4, 5, 2000):
            self.assertEqual(walk_of(table, ["x", "k"], most), walk)
        for most in (1, 2, 3):
            self.assertEqual(walk_of(table, ("x", "k"), most), walk[:most])

    def test_names_with_an_answer_of_their_own(self):
        table = Table([Thing(["a"], 1)])
        self.assertEqual(walk_of(table, ["a"], 2000), [("a",)])
        self.assertEqual(walk_of(table, [], 1), [()])
        self.assertEqual(walk_of(table, ["b", "c"], 3), [("b", "c")])

    def test_a_walk_round_has_the_names_again(self):
        table = Table([Lead(["x"], ["y"]), Lead(["y"], ["x"]), Other(["z"], ["z"])])
        self.assertEqual(walk_of(table, ["x", "k"], 5), [("x", "k"), ("y", "k")] * 2 + [("x", "k")])
        self.assertEqual(walk_of(table, ["z"], 2000), [("z",)] * 2000)

    def test_a_walk_that_grows(self):
        table = Table([Lead(["x"], ["x"] + ["y"] * 11)])
        walk = walk_of(table, ["x", "k"], 2000)
        self.assertEqual(len(walk), 2000)
        self.assertEqual(walk[2], ("x",) + ("y",) * 22 + ("k",))
        self.assertEqual(walk[1999], ("x",) + ("y",) * (11 * 1999) + ("k",))

    def test_the_list_is_new_and_has_tuples(self):
        table = Table([Lead(["x"], [])])
        walk_of(table, ["x", "k"], 3).clear()
        walk = walk_of(table, ["x", "k"], 3)
        self.assertEqual(walk, [("x", "k"), ("k",)])
        self.assertEqual([name.__class__ for name in walk], [tuple, tuple])
        self.assertIs(walk.__class__, list)


if __name__ == "__main__":
    unittest.main()
