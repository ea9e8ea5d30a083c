"""Points 8 and 9: names after very many moves, rings, growth, and far names."""

import itertools
import unittest

from lednames.errors import BadWord, NoName
from lednames.far import far_answer, far_moves, growth_of, name_after, ring_of
from lednames.tables import Lead, Other, Rest, Stop, Table, Thing
from tests.plain import plain_walk
from tests.wrong import no_names, no_numbers, odd_things

NOTHING = ("nothing",)
ROUND = ("round",)
GROWS = ("grows",)
HUGE = 10 ** 300


def expand(word):
    """Return the name of a word, which may not be long."""
    return tuple(label for name, times in word for label in tuple(name) * times)


def short(word):
    """Return a word as a list of pairs of a text and a number."""
    return [(" ".join(name), times) for name, times in word]


class FarTest(unittest.TestCase):
    def assert_names(self, rows, text, names):
        """The names are those after 0, 1, .. moves; None if there are fewer."""
        for count, expected in enumerate(names):
            word = name_after(Table(rows), text.split(), count)
            if expected is None:
                self.assertIsNone(word)
            else:
                self.assertEqual(" ".join(expand(word)), expected, count)


class NameAfterTest(FarTest):
    def test_no_moves(self):
        self.assert_names([Rest([], 3)], "a b", ["a b", None, None])
        self.assert_names([Thing([], 3)], "", ["", None])
        self.assert_names([], "", ["", None])
        self.assertEqual(expand(name_after(Table([]), [], 0)), ())
        self.assertIsNone(name_after(Table([]), [], HUGE))
        self.assertIsNone(name_after(Table([Stop(["a"])]), ["a"], HUGE))

    def test_all_moves_and_one_more(self):
        rows = [Lead(["x"], ["y", "y"]), Lead(["y"], [])]
        self.assert_names(rows, "x k", ["x k", "y y k", "y k", "k", None, None])
        self.assert_names(rows, "x", ["x", None])
        self.assert_names(rows, "y x k", ["y x k", "x k", "y y k", "y k", "k", None])
        self.assertIsNone(name_after(Table(rows), ["x", "k"], HUGE))

    def test_others(self):
        rows = [Other([], ["x", "a"]), Lead(["x"], []), Other(["a"], ["b"]), Thing(["b"], 2)]
        self.assert_names(rows, "", ["", "x a", "a", "b", None])
        self.assert_names(rows, "x x a", ["x x a", "x a", "a", "b", None])

    def test_names_that_leave_with_more_behind(self):
        rows = [Lead(["x"], ["y", "q", "x"]), Rest(["y"], 1), Lead(["z"], ["x", "z"])]
        self.assert_names(rows, "z z k", ["z z k", "x z z k", "y q x z z k", None])

    def test_rings(self):
        rows = [Lead(["y"], ["z"]), Lead(["z"], ["y"]), Lead(["w"], ["y"])]
        names = ["w k", "y k", "z k", "y k", "z k", "y k"]
        self.assert_names(rows, "w k", names)
        self.assertEqual(expand(name_after(Table(rows), ["w", "k"], HUGE)), ("z", "k"))
        self.assertEqual(expand(name_after(Table(rows), ["w", "k"], HUGE + 1)), ("y", "k"))
        others = [Other(["a"], ["b"]), Other(["b"], ["c"]), Other(["c"], ["a"]), Other(["d"], ["b"])]
        self.assert_names(others, "d", ["d", "b", "c", "a", "b", "c", "a", "b"])
        self.assertEqual(expand(name_after(Table(others), ["d"], 3 * 10 ** 299)), ("a",))
        self.assert_names([Lead([], [])], "k", ["k", "k", "k"])
        self.assert_names([Other([], [])], "", ["", "", ""])

    def test_names_that_grow(self):
        table = Table([Lead(["x"], ["x", "y"])])
        self.assertEqual(short(name_after(table, ["x", "k"], 3)), [("x", 1), ("y", 3), ("k", 1)])
        self.assertEqual(short(name_after(table, ["x", "k"], HUGE)), [("x", 1), ("y", HUGE), ("k", 1)])
        rows = [Lead(["x"], ["w", "x", "y", "z"]), Lead(["w"], ["v"]), Lead(["v"], [])]
        names = ["x k", "w x y z k", "v x y z k", "x y z k", "w x y z y z k", "v x y z y z k", "x y z y z k"]
        self.assert_names(rows, "x k", names)
        self.assertEqual(short(name_after(Table(rows), ["x", "k"], 3 * 10 ** 299)),
                         [("x", 1), ("y z", 10 ** 299), ("k", 1)])
        self.assertEqual(short(name_after(Table(rows), ["x", "k"], 3 * 10 ** 299 + 2)),
                         [("v x y z", 1), ("y z", 10 ** 299), ("k", 1)])

    def test_growth_behind_what_is_led_on_before(self):
        rows = [Lead(["a"], ["b", "p"]), Lead(["b"], ["c", "q"]), Lead(["c"], ["b", "r"]), Other(["o"], ["a", "k"])]
        self.assert_names(rows, "o", ["o", "a k", "b p k", "c q p k", "b r q p k", "c q r q p k"])
        self.assertEqual(short(name_after(Table(rows), ["o"], 2 + 2 * 10 ** 50)),
                         [("b", 1), ("r q", 10 ** 50), ("p k", 1)])
        self.assert_names([Lead([], ["a"])], "k", ["k", "a k", "a a k"])
        self.assertEqual(short(name_after(Table([Lead([], ["a", "b"])]), ["k"], HUGE)), [("a b", HUGE), ("k", 1)])

    def test_words_are_new_lists_of_tuples(self):
        table = Table([Lead(["x"], ["x", "y"])])
        word = name_after(table, ("x", "k"), 7)
        self.assertIs(word.__class__, list)
        for pair in word:
            self.assertEqual((pair.__class__, pair[0].__class__), (tuple, tuple))
        word.clear()
        self.assertEqual(short(name_after(table, ["x", "k"], 7)), [("x", 1), ("y", 7), ("k", 1)])


class RingTest(unittest.TestCase):
    def assert_rings(self, rows, cases):
        for text, expected in cases:
            self.assertEqual(ring_of(Table(rows), text.split()), expected, text)

    def test_names_that_are_led_to_an_end_or_grow(self):
        rows = [Lead(["x"], ["x", "x"]), Lead(["y"], []), Thing(["k"], 1), Other(["o"], ["x", "o"])]
        self.assert_rings(rows, [("", None), ("k", None), ("y k", None), ("x k", None), ("x", None), ("o", None)])

    def test_leads(self):
        rows = [Lead(["w"], ["v"]), Lead(["v"], ["y"]), Lead(["y"], ["z"]), Lead(["z"], ["y"]), Lead(["s"], ["s"])]
        self.assert_rings(rows, [("y k", (0, 2)), ("z k", (0, 2)), ("w k", (2, 2)), ("v z", (1, 2)), ("s k", (0, 1)),
                                 ("y", None), ("s", None)])
        self.assert_rings([Lead([], [])], [("a", (0, 1)), ("a b", (0, 1)), ("", None)])

    def test_rings_that_begin_ahead_of_the_lead_that_comes_again(self):
        rows = [Lead(["x"], ["p", "y"]), Lead(["y"], ["x"]), Lead(["p"], ["q", "q"]), Lead(["q"], [])]
        self.assert_rings(rows, [("p y k", (0, 5)), ("q y k", (0, 5)), ("q q y k", (0, 5)), ("x k", (0, 5)),
                                 ("y k", (0, 5)), ("q q q y k", (1, 5)), ("p p y k", (3, 5)), ("p x k", (3, 5)),
                                 ("p q q y k", (3, 5)), ("q p q y k", (3, 5))])

    def test_others(self):
        rows = [Other([], ["a"]), Other(["a"], ["b"]), Other(["b"], ["a"]), Other(["c"], ["c"]), Other(["d"], ["b"])]
        self.assert_rings(rows, [("", (1, 2)), ("a", (0, 2)), ("b", (0, 2)), ("c", (0, 1)), ("d", (1, 2)),
                                 ("c c", None)])
        self.assert_rings([Other([], [])], [("", (0, 1))])

    def test_others_through_leads(self):
        rows = [Other(["k"], ["x", "k"]), Lead(["x"], ["y"]), Lead(["y"], []), Other(["m"], ["x", "l"]),
                Other(["l"], ["y", "m"])]
        self.assert_rings(rows, [("k", (0, 3)), ("y k", (0, 3)), ("x x k", (2, 3)), ("m", (0, 5)), ("y y m", (1, 5)),
                                 ("x l", (0, 5)), ("y l", (0, 5)), ("y x l", (1, 5))])

    def test_others_to_rings_of_leads(self):
        rows = [Other(["o"], ["x", "x", "k"]), Lead(["x"], ["y"]), Lead(["y"], ["x"])]
        self.assert_rings(rows, [("o", (1, 2)), ("x o", (0, 2))])


class GrowthTest(unittest.TestCase):
    def assert_growths(self, rows, cases):
        for text, expected in cases:
            self.assertEqual(growth_of(Table(rows), text.split()), expected, text)

    def test_names_that_do_not_grow(self):
        rows = [Lead(["x"], ["x"]), Lead(["y"], []), Thing(["k"], 1), Other(["o"], ["o"]), Lead(["z"], ["z", "z"])]
        self.assert_growths(rows, [("", None), ("k", None), ("x k", None), ("y k", None), ("o", None), ("z", None),
                                   ("y z", None), ("x z k", None)])

    def test_growth_from_the_first_move_on(self):
        self.assert_growths([Lead(["x"], ["x", "x"]), Lead(["z", "z"], [])], [("x k", 1), ("x x x x k", 1)])
        self.assert_growths([Lead([], ["a"])], [("k", 1), ("k k", 1)])

    def test_names_that_become_shorter_first(self):
        rows = [Lead(["x"], ["x", "y"]), Lead(["d"], []), Lead(["e"], ["d", "d"]), Other(["q", "q", "q"], ["x", "k"])]
        self.assert_growths(rows, [("d x k", 3), ("d d d x k", 7), ("e x k", 5), ("e e x k", 9), ("q q q", 3),
                                   ("d q q q", 5)])

    def test_short_names_inside_of_what_a_lead_leads_to(self):
        rows = [Lead(["p"], ["d", "m"]), Lead(["d"], []), Lead(["m"], ["q"] * 4),
                Lead(["q"] * 4 + ["g"], ["q"] * 4 + ["g", "g"])]
        # d d p g k, d p g k, p g k, d m g k, m g k, q q q q g k, q q q q g g k, ..
        self.assert_growths(rows, [("p g k", 3), ("m g k", 1), ("d m g k", 2), ("d d p g k", 5)])
        rows += [Lead(["s"], ["d", "p"]), Lead(["t"], ["s"]), Lead(["u"], ["d", "t"])]
        # u g k, d t g k, t g k, s g k, d p g k, p g k, d m g k, m g k, q q q q g k, ..
        self.assert_growths(rows, [("u g k", 8), ("t g k", 6), ("s g k", 5), ("u g", None)])
        self.assert_plain_growths(rows, "dpstu", "gk")

    def test_short_names_ahead_of_long_ones_inside_of_what_a_lead_leads_to(self):
        rows = [Lead(["s"], []), Lead(["d"], ["q"] * 4), Lead(["q"] * 4 + ["m"], ["r"] * 5), Lead(["p"], ["d", "m"]),
                Lead(["r"] * 5 + ["w"], ["u"] * 6), Lead(["t"], ["p", "w"]), Lead(["u"] * 6 + ["y"], ["u"] * 7),
                Lead(["o"], ["t", "y"])]
        for place in (["r"] * 5, ["u"] * 6, ["u"] * 7):
            rows.append(Lead(place + ["x"], place + ["x", "x"]))
        # s p x k, p x k, d m x k, q q q q m x k, r r r r r x k, r r r r r x x k, ..
        self.assert_growths(rows, [("s p x k", 3), ("p x k", 1), ("s s p x k", 4), ("s s s s s p x k", 10)])
        # s s o x k, s o x k, o x k, t y x k, p w y x k, d m w y x k, ..
        self.assert_growths(rows, [("s s o x k", 5), ("s s s o x k", 7), ("s o x k", 3), ("o x k", 1)])
        self.assert_plain_growths(rows, "spto", "xk")
        self.assert_plain_growths(rows, "sss", "sssoxk")
        # s s v x k, s v x k, v x k, f f f f x k, d m x k, q q q q m x k, r r r r r x k, ..
        under = rows + [Lead(["v"], ["f"] * 4), Lead(["f"] * 4, ["d", "m"])]
        self.assert_growths(under, [("s s v x k", 5), ("v x k", 1), ("f f f f x k", 2)])
        self.assert_plain_growths(under, "sptv", "xk")
        deep = [Lead(["b"] * 4, ["d", "d", "p"]), Lead(["a"], ["b"] * 4 + ["e"]), Lead(["q"] * 4 + ["d"], ["c"]),
                Lead(["c", "p"], ["s", "s", "s", "b", "b", "o"])]
        self.assert_plain_growths(rows + deep, "asb", "xk")
        self.assert_plain_growths(rows + deep, "spto", "xk")

    def test_short_names_inside_of_each_round(self):
        rows = [Lead(["x"], ["p", "x", "y", "z"]), Lead(["p"], ["d", "m"]), Lead(["d"], []), Lead(["m"], ["q"] * 4),
                Lead(["q"] * 4 + ["x"], ["x"])]
        self.assert_plain_growths(rows, "dpm", "xk")
        rows = [Lead(["x"], ["p", "q", "r"]), Lead(["p"], ["d", "d", "m"]), Lead(["d"], []), Lead(["m"], ["e", "n", "d"]),
                Lead(["e"], ["d"]), Lead(["n"], ["q", "q", "q", "d"]), Lead(["q"] * 4, ["x"])]
        self.assert_plain_growths(rows, "demnp", "xk")

    def assert_plain_growths(self, rows, labels, behind):
        """Compare with the moves made one by one, for all of these labels at the beginning of a name."""
        table = Table(rows)
        for many in range(5):
            for before in itertools.product(labels, repeat=many):
                name = before + tuple(behind)
                answer, moves, used, names = plain_walk(table.rows, name)
                last = None
                if answer == GROWS:
                    last = max(count for count, other in enumerate(names) if len(other) <= len(name)) + 1
                self.assertEqual(growth_of(table, name), last, name)

    def test_names_that_become_shorter_in_each_round(self):
        rows = [Lead(["a"], ["d", "d", "b"]), Lead(["d"], []), Lead(["b"], ["a", "c"])]
        # a k, d d b k, d b k, b k, a c k, d d b c k, d b c k, b c k, a c c k, ..
        self.assert_growths(rows, [("a k", 4), ("d d b k", 11), ("d b k", 6), ("b k", 1), ("d a k", 9)])


class WordTest(unittest.TestCase):
    def assert_far(self, rows, cases):
        for word, answer, moves in cases:
            table = Table(rows)
            self.assertEqual(far_answer(table, word), answer, word)
            self.assertEqual(far_moves(table, word), moves, word)
            as_tuples = tuple((tuple(name), times) for name, times in word)
            self.assertEqual((far_answer(table, as_tuples), far_moves(table, as_tuples)), (answer, moves))
            as_lists = [[list(name), times] for name, times in word]
            self.assertEqual((far_answer(table, as_lists), far_moves(table, as_lists)), (answer, moves))

    def test_the_root(self):
        for word in ([], [(["x"], 0)], [([], 5)], [([], 10 ** 30), (["x", "y"], 0)]):
            self.assert_far([Thing([], 4), Lead(["x"], [])], [(word, ("thing", 4), 0)])
            self.assert_far([Lead([], ["a"])], [(word, NOTHING, 0)])
            self.assert_far([Other([], ["x", "k"]), Lead(["x"], []), Thing(["k"], 1)], [(word, ("thing", 1), 2)])

    def test_times(self):
        many = 10 ** 30
        rows = [Lead(["x"], []), Thing(["k"], 7), Thing(["x"], 8)]
        self.assert_far(rows, [
            ([(["x"], many), (["k"], 1)], ("thing", 7), many), ([(["x"], many)], ("thing", 8), many - 1),
            ([(["x"], 1)], ("thing", 8), 0), ([(["x"], 2), (["k"], 1), (["x"], 0)], ("thing", 7), 2),
            ([(["x", "x"], many), (["x"], many), (["k"], 1)], ("thing", 7), 3 * many),
            ([(["x"], many), (["k"], 2)], NOTHING, many), ([(["k"], many), (["x"], many)], NOTHING, 0),
            ([([], many), (["x"], 0), (["x", "k"], 1), ([], 0)], ("thing", 7), 1),
            ([(["x"], many)] * 100, ("thing", 8), 100 * many - 1),
            ([(["x"], many)] * 99 + [(["k"], 1)], ("thing", 7), 99 * many)])

    def test_places_that_come_again(self):
        many = 10 ** 30
        rows = [Lead(["a", "x"], ["b"]), Lead(["b", "x"], ["c", "c"]), Lead(["c", "c", "x"], ["b"]), Thing(["b", "k"], 1),
                Thing(["c", "c", "k"], 2), Rest(["b"], 3)]
        self.assert_far(rows, [
            ([(["a"], 1), (["x"], many), (["k"], 1)], ("thing", 2), many),
            ([(["a"], 1), (["x"], many - 1), (["k"], 1)], ("thing", 1), many - 1),
            ([(["a"], 1), (["x", "x", "x"], many), (["k"], 1)], ("thing", 2), 3 * many),
            ([(["a"], 1), (["x"], 7), (["x", "x", "x"], 3), (["k"], 1)], ("thing", 2), 16),
            ([(["a"], 1), (["x"], many - 1), (["q"], many), (["k"], 1)], ("thing", 3), many - 1),
            ([(["a"], 1), (["x"], many), (["q"], many), (["k"], 1)], NOTHING, many)])

    def test_answers_at_the_last_label(self):
        many = 10 ** 25
        rows = [Lead(["x"], []), Lead(["r"], ["r"]), Lead(["g"], ["g", "g"]), Other(["o"], ["x", "x", "k"]),
                Thing(["k"], 5), Other(["p"], ["x", "p"]), Other(["s"], ["g", "s"]), Rest([], 6)]
        self.assert_far(rows, [
            ([(["x"], many), (["o"], 1)], ("thing", 5), many + 3), ([(["x"], many), (["p"], 1)], ROUND, None),
            ([(["x"], many), (["s"], 1)], GROWS, None), ([(["x"], many), (["r"], 1)], NOTHING, many),
            ([(["x"], many), (["r"], 2)], ROUND, None), ([(["x"], many), (["g"], many)], GROWS, None),
            ([(["x"], many), (["q"], many)], ("thing", 6), many), ([(["r"], many), (["g"], many)], ROUND, None)])

    def test_a_lead_at_the_root(self):
        self.assert_far([Lead([], []), Thing([], 1)], [([(["a"], 10 ** 30)], ROUND, None), ([], ("thing", 1), 0)])
        self.assert_far([Lead([], ["a"])], [([(["a"], 1)], GROWS, None)])

    def test_what_is_no_word(self):
        table = Table([Lead(["x"], [])])
        for wrong in odd_things() + [0, 7]:
            self.assert_wrong(table, wrong, -1)
        fine = (["x"], 3)
        pairs = odd_things() + [0, [], (), (["x"],), (["x"], 3, 3), ["x", 3], ("x", 3), "x3", (3, ["x"]), [fine, fine]]
        pairs += [(["x"], times) for times in no_numbers()] + [(name, 3) for name in no_names()]
        pairs += [(["x"], -1), (["x"], 10 ** 30 + 1), (["x"], -10 ** 40), ([], -1), ([], 10 ** 31), (["x"], True)]
        for pair in pairs:
            self.assert_wrong(table, [pair], 0)
            self.assert_wrong(table, (fine, [["x"], 0], pair, fine, pair), 2)

    def assert_wrong(self, table, word, place):
        for call in (far_answer, far_moves):
            with self.assertRaises(BadWord) as caught:
                call(table, word)
            self.assertEqual(caught.exception.place, place)
            self.assertEqual(caught.exception.told(), "refused badword")


class ArgumentsTest(unittest.TestCase):
    def test_what_is_no_name(self):
        table = Table([Lead(["a"], ["b"])])
        for wrong in no_names():
            for call in (lambda: name_after(table, wrong, 1), lambda: ring_of(table, wrong),
                         lambda: growth_of(table, wrong)):
                with self.assertRaises(NoName) as caught:
                    call()
                self.assertIs(caught.exception.name, wrong)

    def test_parameters_by_their_names(self):
        table = Table([Lead(["x"], ["x", "y"]), Lead(["r"], ["r"]), Lead(["d"], [])])
        self.assertEqual(short(name_after(count=2, name=["x", "k"], table=table)), [("x", 1), ("y", 2), ("k", 1)])
        self.assertEqual(ring_of(name=["r", "k"], table=table), (0, 1))
        self.assertEqual(growth_of(name=["x", "k"], table=table), 1)
        self.assertEqual(far_answer(word=[(["d"], 9)], table=table), NOTHING)
        self.assertEqual(far_moves(word=[(["d"], 9)], table=table), 8)

    def test_arguments_are_not_changed(self):
        rows = [Lead(["x"], ["d", "x", "y"]), Lead(["d"], []), Lead(["r"], ["d", "r"]), Other(["o"], ["d", "o"])]
        table = Table(rows)
        before = repr(vars(table.tree))
        word = [[["d"], 5], (["x"], 2)]
        for name in (["x", "k"], ["r", "k"], ["o"]):
            given = list(name)
            for call in (ring_of, growth_of, lambda table, name: name_after(table, name, 99)):
                self.assertEqual(call(table, name), call(table, tuple(name)))
            self.assertEqual(name, given)
        self.assertEqual((far_answer(table, word), far_moves(table, word)), (GROWS, None))
        self.assertEqual(word, [[["d"], 5], (["x"], 2)])
        self.assertEqual((repr(vars(table.tree)), table.rows), (before, Table(rows).rows))

    def test_words_that_calls_have_returned(self):
        table = Table([Lead(["x"], ["x", "y"])])
        word = name_after(table, ["x", "k"], 10 ** 30)
        self.assertEqual(far_answer(table, word), GROWS)
        down = Table([Lead(["x"], []), Lead(["y"], []), Thing(["k"], 1)])
        self.assertEqual((far_answer(down, word), far_moves(down, word)), (("thing", 1), 10 ** 30 + 1))
        with self.assertRaises(BadWord):
            far_answer(table, name_after(table, ["x", "k"], 10 ** 30 + 1))


if __name__ == "__main__":
    unittest.main()
