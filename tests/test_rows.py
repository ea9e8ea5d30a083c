"""Points 2, 3 and 4: labels, names, numbers and rows."""

import unittest

from lednames.errors import BadRow
from lednames.tables import Lead, Other, Rest, Stop, Table, Thing
from tests.wrong import no_names, no_numbers

WITH_THING = (Thing, Rest)
WITH_TARGET = (Other, Lead)


def all_rows(name):
    return [Thing(name, 1), Other(name, []), Lead(name, []), Rest(name, 1), Stop(name)]


class RowsTest(unittest.TestCase):
    def assert_bad(self, what, call):
        with self.assertRaises(BadRow) as caught:
            call()
        self.assertEqual(caught.exception.what, what)

    def test_names_are_kept_as_tuples(self):
        for name in ([], ["a"], ("a",), ["abcdefgh", "z"], ("x",) * 12, ["q"] * 200, ["q"] * 5000):
            for row in all_rows(name):
                self.assertIs(row.name.__class__, tuple)
                self.assertEqual(row.name, tuple(name))
            for kind in WITH_TARGET:
                self.assertEqual(kind([], name).target, tuple(name))
                self.assertIs(kind([], name).target.__class__, tuple)

    def test_every_lowercase_letter_and_length_makes_a_label(self):
        letters = "abcdefghijklmnopqrstuvwxyz"
        for letter in letters:
            for length in range(1, 9):
                self.assertEqual(Stop([letter * length]).name, (letter * length,))
        self.assertEqual(Stop(list(letters)).name, tuple(letters))

    def test_nine_letters_are_too_many(self):
        self.assert_bad("name", lambda: Stop(["abcdefghi"]))

    def test_things_are_kept(self):
        for thing in (0, 1, -1, 7, 10 ** 999, -10 ** 999, 10 ** 3000):
            for kind in WITH_THING:
                self.assertEqual(kind(["a"], thing).thing, thing)

    def test_later_changes_have_no_effect(self):
        name = ["a"]
        target = ["b"]
        rows = all_rows(name) + [kind(name, target) for kind in WITH_TARGET]
        name.append("c")
        target[0] = "d"
        self.assertEqual([row.name for row in rows], [("a",)] * 7)
        self.assertEqual([row.target for row in rows[5:]], [("b",)] * 2)

    def test_arguments_are_not_changed(self):
        name = ["a", "b"]
        target = ["c"]
        Lead(name, target)
        self.assertEqual((name, target), (["a", "b"], ["c"]))

    def test_parameters_by_their_names(self):
        self.assertEqual(Thing(thing=1, name=["a"]), Thing(["a"], 1))
        self.assertEqual(Rest(thing=1, name=["a"]), Rest(["a"], 1))
        self.assertEqual(Other(target=["b"], name=["a"]), Other(["a"], ["b"]))
        self.assertEqual(Lead(target=["b"], name=["a"]), Lead(["a"], ["b"]))
        self.assertEqual(Stop(name=["a"]), Stop(["a"]))

    def test_what_is_no_name(self):
        for wrong in no_names():
            self.assert_bad("name", lambda: Stop(wrong))
            for kind in WITH_THING:
                self.assert_bad("name", lambda: kind(wrong, 1))
            for kind in WITH_TARGET:
                self.assert_bad("name", lambda: kind(wrong, []))
                self.assert_bad("target", lambda: kind(["a"], wrong))

    def test_what_is_no_number(self):
        for wrong in no_numbers():
            for kind in WITH_THING:
                self.assert_bad("thing", lambda: kind(["a"], wrong))

    def test_the_first_parameter_comes_first(self):
        for kind in WITH_THING:
            self.assert_bad("name", lambda: kind(["A"], True))
        for kind in WITH_TARGET:
            self.assert_bad("name", lambda: kind("a", "b"))

    def test_equality(self):
        makers = [
            lambda: Thing(["a"], 1), lambda: Thing(["a"], 2), lambda: Thing(["b"], 1), lambda: Rest(["a"], 1),
            lambda: Rest(["a"], 2), lambda: Rest([], 1), lambda: Other(["a"], ["b"]), lambda: Other(["a"], []),
            lambda: Other(["b"], ["b"]), lambda: Lead(["a"], ["b"]), lambda: Lead(["a"], []),
            lambda: Lead(["b"], ["b"]), lambda: Stop(["a"]), lambda: Stop([]), lambda: Table([]),
            lambda: Table([Stop(["a"])]),
        ]
        for at, maker in enumerate(makers):
            for place, other in enumerate(makers):
                self.assertIs(maker() == other(), at == place, (at, place))
                self.assertIs(maker() != other(), at != place, (at, place))

    def test_never_equal_to_other_things(self):
        for row in all_rows(["a"]):
            for other in (None, 1, "a", ("a",), ["a"], row.name, vars(row), object()):
                self.assertIs(row == other, False)
                self.assertIs(other == row, False)
                self.assertIs(row != other, True)

    def test_lists_and_tuples_make_equal_rows(self):
        self.assertEqual(Lead(["a", "b"], ("c",)), Lead(("a", "b"), ["c"]))

    def test_no_class_derives_from_another(self):
        for kind in (Thing, Other, Lead, Rest, Stop, Table):
            self.assertEqual(kind.__bases__, (object,))
            self.assertEqual(kind.__module__, "lednames.tables")
            self.assertIn("__init__", vars(kind))


if __name__ == "__main__":
    unittest.main()
