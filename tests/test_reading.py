"""Points 6 and 7: answers, numbers of moves, uses of rows and places."""

import unittest

from lednames.errors import NoName
from lednames.reading import answer_of, count_moves, place_of, row_uses
from lednames.tables import Lead, Other, Rest, Stop, Table, Thing
from tests.wrong import no_names

NOTHING = ("nothing",)
ROUND = ("round",)
GROWS = ("grows",)


class ReadingTest(unittest.TestCase):
    def assert_reads(self, rows, cases):
        """Each case: the name, its answer, the number of moves, and the numbers of the uses of rows."""
        table = Table(rows)
        for text, answer, moves, uses in cases:
            name = text.split()
            self.assertEqual(answer_of(table, name), answer, text)
            self.assertEqual(count_moves(table, name), moves, text)
            if uses is not None:
                uses = [(row, many) for row, many in zip(rows, uses) if many > 0]
            self.assertEqual(row_uses(table, name), uses, text)

    def assert_places(self, rows, cases):
        table = Table(rows)
        for text, kind, what in cases:
            name = text.split()
            if kind == "node":
                what = tuple(what.split())
            self.assertEqual(place_of(table, name), (kind, what), text)
            self.assertEqual(place_of(table, tuple(name)), (kind, what), text)


class AnswerTest(ReadingTest):
    def test_names_without_moves(self):
        self.assert_reads([Thing([], 8), Rest([], 9), Stop(["a"]), Thing(["b"], 7)], [
            ("", ("thing", 8), 0, [1, 0, 0, 0]), ("a", NOTHING, 0, [0, 0, 0, 0]),
            ("a a", NOTHING, 0, [0, 0, 0, 0]), ("b", ("thing", 7), 0, [0, 0, 0, 1]),
            ("c", ("thing", 9), 0, [0, 1, 0, 0]), ("c b", ("thing", 9), 0, [0, 1, 0, 0])])

    def test_leads(self):
        self.assert_reads([Rest([], 6), Thing(["k"], 5), Lead(["x"], ["y", "y"]), Lead(["y"], [])], [
            ("x k", ("thing", 5), 3, [0, 1, 1, 2]), ("x", NOTHING, 0, [0, 0, 0, 0]),
            ("x x k", ("thing", 5), 6, [0, 1, 2, 4]), ("y y", NOTHING, 1, [0, 0, 0, 1]),
            ("x q", ("thing", 6), 3, [1, 0, 1, 2]), ("x q x k", ("thing", 6), 3, [1, 0, 1, 2])])

    def test_things_and_others_at_leads(self):
        self.assert_reads([Thing(["k"], 5), Thing(["x"], 1), Lead(["x"], []), Other(["y"], ["x", "k"]),
                           Lead(["y"], ["x"])], [
            ("x", ("thing", 1), 0, [0, 1, 0, 0, 0]), ("y", ("thing", 5), 2, [1, 0, 1, 1, 0]),
            ("y y", ("thing", 5), 4, [1, 0, 2, 1, 1]), ("y x", ("thing", 1), 2, [0, 1, 1, 0, 1])])

    def test_answers_behind_the_place_where_a_name_leaves(self):
        rows = [Lead(["x"], ["y", "q", "x"]), Rest(["y"], 4), Lead(["z"], ["x", "z"])]
        self.assert_reads(rows, [
            ("x k", ("thing", 4), 1, [1, 1, 0]), ("z k", ("thing", 4), 2, [1, 1, 1]),
            ("y q x k", ("thing", 4), 0, [0, 1, 0]), ("z z z", ("thing", 4), 2, [1, 1, 1])])

    def test_others(self):
        self.assert_reads([Other([], ["a"]), Other(["a"], ["b", "c"]), Thing(["b", "c"], 2), Other(["b", "d"], [])], [
            ("", ("thing", 2), 2, [1, 1, 1, 0]), ("a", ("thing", 2), 1, [0, 1, 1, 0]),
            ("b d", ("thing", 2), 3, [1, 1, 1, 1]), ("a a", NOTHING, 0, [0, 0, 0, 0])])

    def test_others_and_leads_mixed(self):
        self.assert_reads([Other(["k"], ["x", "x", "l"]), Thing(["l"], 3), Lead(["x"], ["y", "y"]), Lead(["y"], [])], [
            ("x x x k", ("thing", 3), 16, [1, 1, 5, 10])])

    def test_others_round(self):
        self.assert_reads([Other([], []), Other(["a"], ["a"]), Other(["b"], ["c"]), Other(["c"], ["b"]),
                           Other(["d"], ["b"]), Other(["e"], ["a", "z"])], [
            ("", ROUND, None, None), ("a", ROUND, None, None), ("b", ROUND, None, None), ("d", ROUND, None, None),
            ("e", NOTHING, 1, [0, 0, 0, 0, 0, 1])])

    def test_others_round_by_leads(self):
        rows = [Other(["k"], ["x", "k"]), Lead(["x"], [])]
        self.assert_reads(rows, [("k", ROUND, None, None), ("x x k", ROUND, None, None), ("x x", NOTHING, 1, [0, 1])])

    def test_others_to_names_without_an_end(self):
        rows = [Other(["a"], ["x", "k"]), Other(["b"], ["y", "k"]), Lead(["x"], ["x", "k"]), Lead(["y"], ["y"])]
        self.assert_reads(rows, [("a", GROWS, None, None), ("b", ROUND, None, None), ("x", NOTHING, 0, [0] * 4)])

    def test_leads_round(self):
        rows = [Lead(["s"], ["s"]), Lead(["t"], ["u"]), Lead(["u"], ["v"]), Lead(["v"], ["t"]), Lead(["w"], ["u", "w"])]
        self.assert_reads(rows, [
            ("s k", ROUND, None, None), ("s", NOTHING, 0, [0] * 5), ("t k", ROUND, None, None),
            ("v v", ROUND, None, None), ("w k", ROUND, None, None), ("w w w", ROUND, None, None)])

    def test_leads_that_grow(self):
        rows = [Lead(["s"], ["s", "s"]), Lead(["t"], ["u"]), Lead(["u"], ["t", "k"]), Lead(["w"], ["u"])]
        self.assert_reads(rows, [
            ("s k", GROWS, None, None), ("t k", GROWS, None, None), ("u u", GROWS, None, None),
            ("w k", GROWS, None, None), ("w", NOTHING, 0, [0] * 4)])

    def test_labels_that_are_led_to_an_end_do_not_make_it_grow(self):
        rows = [Lead(["a"], ["c", "c", "b"]), Lead(["b"], ["c", "a"]), Lead(["c"], [])]
        self.assert_reads(rows, [("a k", ROUND, None, None), ("b k", ROUND, None, None), ("c c k", NOTHING, 2, [0, 0, 2])])
        rows = [Lead(["a"], ["b", "c"]), Lead(["b"], ["a"]), Lead(["c"], [])]
        self.assert_reads(rows, [("a k", GROWS, None, None), ("b k", GROWS, None, None)])

    def test_a_lead_below_itself(self):
        rows = [Thing(["z", "k"], 1), Lead(["x", "y"], ["x", "y", "z"]), Lead(["z", "y"], ["z"])]
        self.assert_reads(rows, [
            ("x y k", GROWS, None, None), ("x y", NOTHING, 0, [0, 0, 0]), ("z y y y k", ("thing", 1), 3, [1, 0, 3]),
            ("x z y", NOTHING, 0, [0, 0, 0]), ("z y", NOTHING, 0, [0, 0, 0])])

    def test_leads_at_the_root(self):
        self.assert_reads([Lead([], [])], [("", NOTHING, 0, [0]), ("a", ROUND, None, None)])
        self.assert_reads([Lead([], ["a"])], [("", NOTHING, 0, [0]), ("a", GROWS, None, None)])
        self.assert_reads([Thing([], 2), Lead([], [])], [("", ("thing", 2), 0, [1, 0]), ("a b", ROUND, None, None)])
        self.assert_reads([Other([], ["b"]), Lead([], ["a"])], [("", GROWS, None, None)])
        self.assert_reads([Other([], []), Lead([], ["a"])], [("", ROUND, None, None), ("b", GROWS, None, None)])

    def test_uses_are_new_lists_of_tuples_in_the_order_of_the_table(self):
        table = Table([Lead(["z"], ["y"]), Lead(["y"], []), Thing(["k"], 1)])
        row_uses(table, ["z", "k"]).clear()
        uses = row_uses(table, ["z", "k"])
        self.assertEqual(uses, [(Thing(["k"], 1), 1), (Lead(["y"], []), 1), (Lead(["z"], ["y"]), 1)])
        self.assertEqual([pair.__class__ for pair in uses], [tuple] * 3)
        self.assertIs(uses.__class__, list)

    def test_what_is_no_name(self):
        table = Table([Lead(["a"], ["b"])])
        for wrong in no_names():
            for call in (answer_of, count_moves, row_uses, place_of):
                with self.assertRaises(NoName) as caught:
                    call(table, wrong)
                self.assertIs(caught.exception.name, wrong)

    def test_parameters_by_their_names(self):
        table = Table([Lead(["x"], []), Thing(["k"], 1)])
        name = ["x", "k"]
        self.assertEqual(answer_of(name=name, table=table), ("thing", 1))
        self.assertEqual(count_moves(name=name, table=table), 1)
        self.assertEqual(row_uses(name=name, table=table), [(Thing(["k"], 1), 1), (Lead(["x"], []), 1)])
        self.assertEqual(place_of(name=name, table=table), ("node", ("k",)))

    def test_arguments_are_not_changed(self):
        rows = [Lead(["x"], ["y"]), Lead(["y"], ["x", "x"]), Other(["z"], ["x", "z"])]
        table = Table(rows)
        before = repr(vars(table.tree))
        name = ["x", "k"]
        for call in (answer_of, count_moves, row_uses, place_of):
            self.assertEqual(call(table, name), call(table, tuple(name)))
        self.assertEqual((name, table.rows), (["x", "k"], tuple(rows)))
        self.assertEqual(repr(vars(table.tree)), before)


class PlaceTest(ReadingTest):
    def test_nodes(self):
        self.assert_places([Stop(["a", "b"]), Thing(["c"], 1)], [
            ("", "node", ""), ("a", "node", "a"), ("a b", "node", "a b"), ("c", "node", "c")])

    def test_names_that_leave(self):
        self.assert_places([Rest([], 3), Rest(["a"], 4), Stop(["b"])], [
            ("q", "all", ("thing", 3)), ("q a", "all", ("thing", 3)), ("a q", "all", ("thing", 4)),
            ("b q", "all", NOTHING), ("a", "node", "a"), ("b", "node", "b"), ("b q a q", "all", NOTHING)])

    def test_leads(self):
        self.assert_places([Lead(["x"], ["y"]), Lead(["z"], []), Lead(["w"], ["z", "x"]), Stop(["y", "y"])], [
            ("x", "node", "y"), ("z", "node", ""), ("w", "node", "y"), ("w y", "node", "y y"),
            ("z z z x y", "node", "y y"), ("x x", "all", NOTHING)])

    def test_leads_that_leave_on_the_way(self):
        self.assert_places([Lead(["x"], ["y", "q"]), Rest(["y"], 4), Lead(["z"], ["q", "y"])], [
            ("x", "all", ("thing", 4)), ("x y", "all", ("thing", 4)), ("z", "all", NOTHING)])

    def test_names_without_an_end(self):
        rows = [Lead(["r"], ["r"]), Lead(["g"], ["g", "g"]), Lead(["x"], ["r", "g"]), Lead(["y"], ["g", "r"])]
        self.assert_places(rows, [
            ("r", "all", ROUND), ("g", "all", GROWS), ("x", "all", ROUND), ("y", "all", GROWS), ("", "node", ""),
            ("r g", "all", ROUND), ("g r", "all", GROWS)])
        self.assert_places([Lead([], [])], [("", "all", ROUND), ("a", "all", ROUND)])
        self.assert_places([Lead([], ["a"])], [("", "all", GROWS), ("a", "all", GROWS)])

    def test_the_own_row_of_a_name_does_not_matter(self):
        rows = [Thing(["a"], 1), Other(["b"], ["c"]), Other([], ["c"]), Other(["c"], ["c"])]
        self.assert_places(rows, [("a", "node", "a"), ("b", "node", "b"), ("", "node", ""), ("c", "node", "c")])


if __name__ == "__main__":
    unittest.main()
