"""Point 13: the least name with an answer, the number of such names, and the one at a place."""

import itertools
import unittest

from lednames.counting import count_names, first_name, name_at
from lednames.errors import BadAnswer, BadLabels, NoPlace
from lednames.reading import answer_of
from lednames.tables import Lead, Other, Rest, Stop, Table, Thing
from tests.wrong import no_numbers, odd_things

NOTHING = ("nothing",)
ROUND = ("round",)
GROWS = ("grows",)
LABELS = [one + two for one in "abcdefgh" for two in "abcdefgh"]


def no_answers():
    wrong = odd_things() + [0, [], (), "thing", "nothing", ("thing",), ("round", 1), ("nothing", None), ("Grows",),
                            ("thing", 1, 1), [1, "thing"], (("round",),), ["round", "grows"], ("thing", "1")]
    return wrong + [("thing", number) for number in no_numbers()] + [(word,) for word in odd_things()]


class FirstTest(unittest.TestCase):
    def assert_first(self, rows, cases):
        """The cases have answers and names' texts, or None."""
        for answer, expected in cases:
            if expected is not None:
                expected = tuple(expected.split())
            self.assertEqual(first_name(Table(rows), answer), expected, answer)
            self.assertEqual(first_name(Table(rows), list(answer)), expected, answer)

    def test_the_root(self):
        self.assert_first([], [(NOTHING, ""), (("thing", 1), None), (ROUND, None), (GROWS, None)])
        self.assert_first([Thing([], 1), Thing(["a"], 1)], [(("thing", 1), ""), (NOTHING, "b")])
        self.assert_first([Other([], []), Thing(["a"], 1)], [(ROUND, ""), (NOTHING, "b")])

    def test_labels_that_stand_in_no_row(self):
        self.assert_first([Rest([], 1)], [(("thing", 1), "a"), (NOTHING, "")])
        self.assert_first([Rest([], 1), Stop(["a"])], [(("thing", 1), "b"), (NOTHING, "")])
        self.assert_first([Rest([], 1), Stop(["a"]), Other(["c"], ["b"])], [(("thing", 1), "b")])
        self.assert_first([Rest([], 1), Stop(["b"]), Thing([], 2)], [(("thing", 1), "a"), (NOTHING, "b")])
        self.assert_first([Rest([], 1), Lead(["b"], ["c"]), Stop(["a"]), Stop(["c"]), Thing([], 4)],
                          [(("thing", 1), "d"), (NOTHING, "a")])
        self.assert_first([Lead(["b"], ["b"]), Lead(["c"], ["c", "a"])], [(ROUND, "b a"), (GROWS, "c a")])

    def test_shorter_names_are_less(self):
        rows = [Thing(["a", "b"], 1), Thing(["b", "a"], 1), Thing(["c"], 2), Thing(["b", "b"], 2), Rest(["c", "c"], 3),
                Thing(["a", "a", "a"], 3)]
        self.assert_first(rows, [(("thing", 1), "a b"), (("thing", 2), "c"), (("thing", 3), "a a a"),
                                 (("thing", 0), None)])

    def test_names_behind_leads(self):
        rows = [Lead(["d"], ["b", "b"]), Thing(["b", "b", "k"], 1), Lead(["b", "b", "c"], ["r"]), Lead(["r"], ["r", "r"])]
        self.assert_first(rows, [(("thing", 1), "d k"), (GROWS, "r a"), (ROUND, None)])
        rows = [Lead(["a"], []), Thing(["k"], 5), Other(["o"], ["a", "o"]), Other(["p"], ["g", "g"]), Lead(["g"], ["g", "k"])]
        self.assert_first(rows, [(("thing", 5), "k"), (ROUND, "o"), (GROWS, "p")])

    def test_long_names(self):
        rows = [Lead(["x"] * 12, ["y"]), Lead(["y"] + ["x"] * 11, ["z"]), Thing(["z"] + ["x"] * 11, 5)]
        self.assert_first(rows, [(("thing", 5), "z" + " x" * 11)])

    def test_what_is_no_answer(self):
        for wrong in no_answers():
            with self.assertRaises(BadAnswer) as caught:
                first_name(Table([Thing(["a"], 1)]), wrong)
            self.assertEqual((vars(caught.exception), caught.exception.told()), ({}, "refused badanswer"))


class CountTest(unittest.TestCase):
    def assert_counts(self, rows, labels, answer, counts):
        """The counts are those of names of no labels, of one label, and so on; each name is asked for by its place."""
        table = Table(rows)
        for length, expected in enumerate(counts):
            self.assertEqual(count_names(table, labels, length, answer), expected)
            self.assertEqual(count_names(table, tuple(labels), length, list(answer)), expected)
            names = [name for name in itertools.product(sorted(labels), repeat=length)
                     if answer_of(table, name) == answer]
            self.assertEqual([name_at(table, labels, length, answer, place) for place in range(expected)], names)
            for place in (-1, expected, expected + 1, -expected - 1, 10 ** 400, -10 ** 400):
                with self.assertRaises(NoPlace) as caught:
                    name_at(table, labels, length, answer, place)
                self.assertIs(caught.exception.place, place)

    def test_no_labels(self):
        self.assert_counts([Thing([], 3)], [], ("thing", 3), [1, 0, 0])
        self.assert_counts([Rest([], 3)], [], NOTHING, [1, 0, 0])
        self.assert_counts([Rest([], 3)], [], ("thing", 3), [0, 0, 0])

    def test_all_names(self):
        self.assert_counts([], ["b", "a"], NOTHING, [1, 2, 4, 8])
        self.assert_counts([Rest([], 3)], ["b", "a", "c"], ("thing", 3), [0, 3, 9, 27])
        self.assert_counts([Lead([], [])], ["b"], ROUND, [0, 1, 1])
        self.assert_counts([Lead([], ["a"])], ["b", "c"], GROWS, [0, 2, 4])

    def test_leads(self):
        rows = [Thing(["k"], 7), Lead(["x"], []), Lead(["y"], ["x", "z"]), Stop(["z", "y"]), Rest(["z"], 8),
                Other(["o"], ["x", "o"]), Lead(["g"], ["g", "k"])]
        self.assert_counts(rows, ["y", "k", "x"], ("thing", 7), [0, 1, 1, 1])
        self.assert_counts(rows, ["y", "k", "x", "z"], ("thing", 8), [0, 0, 6, 30])
        self.assert_counts(rows, ["o", "x"], ROUND, [0, 1, 1, 1])
        self.assert_counts(rows, ["g", "x", "a"], GROWS, [0, 0, 3, 12])
        self.assert_counts(rows, ["q", "x"], NOTHING, [1, 2, 4, 8])

    def test_labels_in_the_order_of_strings(self):
        rows = [Rest([], 1), Stop(["b"])]
        self.assertEqual([name_at(Table(rows), ["ba", "b", "c", "a"], 1, ("thing", 1), place) for place in range(3)],
                         [("a",), ("ba",), ("c",)])
        self.assertEqual(name_at(Table(rows), ["ba", "b", "c", "a"], 1, NOTHING, 0), ("b",))

    def test_names_of_300_labels_over_40_labels(self):
        labels = LABELS[:40]
        table = Table([Lead(["aa"], []), Thing(["ab"], 1), Rest(["ac"], 2)])
        self.assertEqual(count_names(table, labels, 300, ("thing", 1)), 1)
        self.assertEqual(name_at(table, labels, 300, ("thing", 1), 0), ("aa",) * 299 + ("ab",))
        many = sum(40 ** left for left in range(1, 300))
        self.assertEqual(count_names(table, labels, 300, ("thing", 2)), many)
        self.assertEqual(count_names(table, labels, 300, NOTHING), 40 ** 300 - many - 1)
        self.assertEqual(name_at(table, labels, 300, ("thing", 2), 0), ("aa",) * 298 + ("ac", "aa"))
        self.assertEqual(name_at(table, labels, 300, ("thing", 2), 40), ("aa",) * 297 + ("ac", "aa", "aa"))
        self.assertEqual(name_at(table, labels, 300, ("thing", 2), many - 1), ("ac",) + (labels[39],) * 299)
        with self.assertRaises(NoPlace) as caught:
            name_at(table, labels, 300, ("thing", 2), many)
        self.assertEqual(caught.exception.place, many)

    def test_sixty_rows(self):
        # Label aa leads on through sixty places, of which each has one thing.
        rows = [Lead(["p", LABELS[at], "aa"], ["p", LABELS[at + 1]]) for at in range(30)]
        rows += [Thing(["p", LABELS[at], "ab"], at) for at in range(30)]
        table = Table(rows)
        self.assertEqual(count_names(table, LABELS[:39] + ["p"], 2 + 12, ("thing", 20)), 1)
        self.assertEqual(name_at(table, LABELS[:39] + ["p"], 2 + 12, ("thing", 20), 0),
                         ("p", LABELS[9]) + ("aa",) * 11 + ("ab",))

    def test_no_name_has_fewer_than_no_labels(self):
        table = Table([Rest([], 1)])
        self.assertEqual([count_names(table, ["a"], length, NOTHING) for length in (-1, -7)], [0, 0])

    def test_what_are_no_labels(self):
        table = Table([Thing(["a"], 1)])
        fine = ["ab", "cd"]
        wrong = [label for label in odd_things() if label not in ("a", "ab")] + [0, ["a"], ("a",), "A", "a.b", "abcdefghi"]
        for label in wrong + ["ab", "cd"]:
            for labels in (fine + [label], tuple(fine) + (label, "B"), fine + [label, "x", label]):
                for answer in (NOTHING, ("none",)):
                    for call in (lambda: count_names(table, labels, 2, answer),
                                 lambda: name_at(table, labels, 2, answer, None)):
                        with self.assertRaises(BadLabels) as caught:
                            call()
                        self.assertEqual((caught.exception.place, caught.exception.told()), (2, "refused badlabels"))
        with self.assertRaises(BadLabels) as caught:
            count_names(table, ["a", "b", "b", "a", "C"], 2, NOTHING)
        self.assertEqual(caught.exception.place, 2)
        with self.assertRaises(BadLabels) as caught:
            count_names(table, ["B", "b", "b"], 0, NOTHING)
        self.assertEqual(caught.exception.place, 0)

    def test_what_is_no_answer(self):
        table = Table([Thing(["a"], 1)])
        for wrong in no_answers():
            for call in (lambda: count_names(table, ["a"], 2, wrong), lambda: name_at(table, ["a"], 2, wrong, True),
                         lambda: name_at(table, [], 0, wrong, 99)):
                with self.assertRaises(BadAnswer):
                    call()

    def test_what_is_no_place(self):
        table = Table([Thing(["a"], 1)])
        for wrong in no_numbers() + [1, -1]:
            with self.assertRaises(NoPlace) as caught:
                name_at(table, ["a", "b"], 1, ("thing", 1), wrong)
            self.assertIs(caught.exception.place, wrong)
            self.assertEqual(caught.exception.told(), "refused noplace")
        with self.assertRaises(NoPlace):
            name_at(table, ["a", "b"], 1, ("thing", 2), 0)

    def test_arguments(self):
        table = Table([Thing(["a"], 1), Lead(["b"], [])])
        before = repr(vars(table.tree))
        labels = ["b", "a"]
        answer = ["thing", 1]
        self.assertEqual(first_name(answer=answer, table=table), ("a",))
        self.assertEqual(count_names(answer=answer, length=3, labels=labels, table=table), 1)
        self.assertEqual(name_at(place=0, answer=answer, length=3, labels=labels, table=table), ("b", "b", "a"))
        self.assertEqual((labels, answer, repr(vars(table.tree))), (["b", "a"], ["thing", 1], before))


if __name__ == "__main__":
    unittest.main()
