"""Points 8 to 13 at the bounds, and with what calls have returned."""

import random
import unittest

from lednames.counting import count_names, first_name, name_at
from lednames.errors import Large
from lednames.far import far_answer, far_moves, growth_of, name_after, ring_of
from lednames.least import (count_normal, flat_table, is_least, least_count, least_parts, least_table, only_table)
from lednames.likeness import idle_rows, unlike_name
from lednames.moving import next_of, walk_of
from lednames.reading import answer_of, count_moves, place_of
from lednames.tables import Lead, Other, Rest, Stop, Table, Thing

LABELS = [one + two for one in "abcdefgh" for two in "abcdefgh"]
HUGE = 10 ** 300
NOTHING = ("nothing",)
ROUND = ("round",)
GROWS = ("grows",)


def tower(many, times):
    """Leads of which each one leads to the next label, so often; the last one leads to the root."""
    return [Lead([LABELS[at]], [LABELS[at + 1]] * times) for at in range(many - 1)] + [Lead([LABELS[many - 1]], [])]


def tower_after(many, at, count):
    """The name after so many moves of a label of a tower that doubles; there are 2 ** (many - at) - 1 in all."""
    behind = ()
    while count > 0:
        count -= 1
        at += 1
        half = 2 ** (many - at) - 1
        if count < half:
            behind = (LABELS[at],) + behind
        else:
            count -= half
    return (LABELS[at],) + behind


def chain(many):
    """Places in a row: each of these labels has x ten times below it, and leads to the next one then."""
    return [Lead([LABELS[at]] + ["x"] * 11, [LABELS[at + 1]]) for at in range(many)]


def expand(word):
    return tuple(label for name, times in word for label in tuple(name) * times)


class TowerTest(unittest.TestCase):
    def test_names_after_moves(self):
        table = Table(tower(60, 2))
        moves = 2 ** 60 - 1
        source = random.Random(1)
        for count in [0, 1, 2, 59, 60, 61, moves - 1] + [source.randrange(moves) for _ in range(100)]:
            self.assertEqual(expand(name_after(table, ["aa", "z"], count)), tower_after(60, 0, count) + ("z",))
            later = name_after(table, ["aa", "aa", "z"], count + moves)
            self.assertEqual(expand(later), tower_after(60, 0, count) + ("z",))
        self.assertEqual(expand(name_after(table, ["aa", "z"], moves)), ("z",))
        self.assertIsNone(name_after(table, ["aa", "z"], moves + 1))
        self.assertIsNone(name_after(table, ["aa", "z"], HUGE))
        name = ["aa"] * 199 + ["z"]
        self.assertEqual(expand(name_after(table, name, 198 * moves + 1)), ("ab", "ab", "z"))
        self.assertEqual(expand(name_after(table, name, 199 * moves)), ("z",))
        self.assertIsNone(name_after(table, name, 199 * moves + 1))

    def test_steps_agree_with_single_moves(self):
        table = Table(tower(40, 3) + [Lead(["x"], ["aa", "x", "ab"]), Lead(["y"], ["ac", "y"]), Other(["o"], ["aa", "o"])])
        source = random.Random(2)
        for name in (["aa", "k"], ["aa", "aa", "x", "k"], ["ab", "y", "k"], ["aa", "o"]):
            for _ in range(30):
                count = source.randrange(source.choice([10, 3 ** 20, 3 ** 38, 3 ** 39, 3 ** 38]))
                one = expand(name_after(table, name, count))
                self.assertEqual(next_of(table, one), ("to", expand(name_after(table, name, count + 1))))

    def test_rings(self):
        moves = 2 ** 58 - 1
        table = Table(tower(58, 2) + [Lead(["x"], ["aa", "aa", "x"]), Other(["o"], ["aa", "o"])])
        self.assertEqual(ring_of(table, ["x", "k"]), (0, 2 * moves + 1))
        self.assertEqual(ring_of(table, ["aa", "x", "k"]), (0, 2 * moves + 1))
        self.assertEqual(ring_of(table, ["aa", "aa", "aa", "x", "k"]), (moves, 2 * moves + 1))
        # Half of the first aa is left then, and ab ab x stands in the ring as well.
        self.assertEqual(ring_of(table, ["aa", "ab", "x", "k"]), ((moves + 1) // 2, 2 * moves + 1))
        self.assertEqual(ring_of(table, ["ab", "aa", "x", "k"]), (0, 2 * moves + 1))
        self.assertEqual(ring_of(table, ["ac", "x", "k"]), (0, 2 * moves + 1))
        self.assertEqual(ring_of(table, ["ab", "ab", "ab", "x"] + ["k"] * 190)[0], (moves - 1) // 2)
        self.assertEqual(ring_of(table, ["o"]), (0, moves + 1))
        self.assertEqual(ring_of(table, ["aa", "aa", "o"]), (moves, moves + 1))
        self.assertEqual(ring_of(table, ["x", "x", "o"]), (0, 2 * moves + 1))
        before, length = ring_of(table, ["aa"] * 150 + ["x", "k"])
        self.assertEqual((before, length), (148 * moves, 2 * moves + 1))
        name = ["aa"] * 150 + ["x", "k"]
        self.assertEqual(expand(name_after(table, name, before)), ("aa", "aa", "x", "k"))
        self.assertEqual(expand(name_after(table, name, before + length)), ("aa", "aa", "x", "k"))
        self.assertNotEqual(expand(name_after(table, name, before - 1 + length)),
                            expand(name_after(table, name, before - 1)))

    def test_growth(self):
        moves = 2 ** 58 - 1
        table = Table(tower(58, 2) + [Lead(["x"], ["aa", "x", "z"]), Lead(["y"], ["y", "z"])])
        self.assertEqual(growth_of(table, ["y", "k"]), 1)
        # Five times the tower is taken down, and five labels put behind y.
        self.assertEqual(growth_of(table, ["aa"] * 5 + ["y", "k"]), 5 * moves + 6)
        self.assertEqual(growth_of(table, ["x", "k"]), 1)
        # In the round with a label more for each of the towers, the name is as long as at first when x stands first.
        self.assertEqual(growth_of(table, ["aa"] * 7 + ["x", "k"]), 7 * moves + 7 * (moves + 1) + 1)
        self.assertEqual(growth_of(table, ["aa"] * 190 + ["x"] + ["k"] * 9), 190 * (2 * moves + 1) + 1)
        self.assertIsNone(growth_of(table, ["aa", "k"]))

    def test_words_of_names_that_grow(self):
        rows = [Lead([LABELS[at]], [LABELS[at + 1]] + ["k"] * 11) for at in range(59)]
        table = Table(rows + [Lead([LABELS[59]], [LABELS[0]] + ["k"] * 11)])
        name = ["aa"] + ["z"] * 199
        for count in (0, 1, 59, 60, 61, 119, 120, 10 ** 30, HUGE - 1, HUGE):
            word = name_after(table, name, count)
            self.assertLessEqual(len(word), 300)
            self.assertLessEqual(max(len(part) for part, times in word), 1000)
            self.assertEqual(sum(len(part) * times for part, times in word), 200 + 11 * count)
            self.assertEqual(word[0][0][:1], (LABELS[count % 60],))
            self.assertEqual(sum(part.count("z") * times for part, times in word), 199)
        rows = [Lead([], ["a"] * 12)]
        self.assertEqual(sum(len(part) * times for part, times in name_after(Table(rows), name, HUGE)), 200 + 12 * HUGE)
        rows = [Lead([LABELS[at]], [LABELS[at + 1]] + ["k"] * 11) for at in range(59)]
        table = Table(rows + [Lead([LABELS[59]], [LABELS[30]] + ["k"] * 11)])
        for count in (29, 30, 31, 59, 60, 89, 90, HUGE):
            word = name_after(table, name, count)
            self.assertLessEqual(max(len(part) for part, times in word), 1000)
            self.assertEqual(sum(len(part) * times for part, times in word), 200 + 11 * count)
            self.assertEqual(word[-1][0][-199:], ("z",) * 199)

    def test_likeness_of_towers(self):
        table = Table(tower(58, 12) + [Thing(["z"], 3), Rest([], 4)])
        down = Table([Lead([label], []) for label in LABELS[:58]] + [Thing(["z"], 3), Rest([], 4)])
        self.assertIsNone(unlike_name(table, down))
        self.assertEqual(least_table(table), down)
        self.assertEqual((least_parts(table), count_normal(table)), ((1, 1, 0, 58, 1), 1))
        self.assertIs(is_least(table), True)
        self.assertIsNone(flat_table(table))
        self.assertEqual(count_names(table, LABELS[:39] + ["z"], 300, ("thing", 3)), 39 ** 299)


class FarTest(unittest.TestCase):
    def test_long_words(self):
        many = 10 ** 30
        table = Table(tower(58, 2) + [Thing(["z"], 3), Lead(["x"], ["aa", "x"])])
        moves = 2 ** 58 - 1
        word = [(["aa"] * 200, many - at) for at in range(99)] + [(["z"], 1)]
        self.assertEqual(far_answer(table, word), ("thing", 3))
        self.assertEqual(far_moves(table, word), moves * 200 * sum(many - at for at in range(99)))
        self.assertEqual(far_answer(table, word[:98] + [(["x"], 1), (["z"], 1)]), ROUND)
        self.assertIsNone(far_moves(table, word[:98] + [(["x"], 1), (["z"], 1)]))
        self.assertEqual(far_answer(table, word[:98] + [(["x"], 1)]), NOTHING)

    def test_rounds_of_many_places(self):
        rows = chain(57)[:57] + [Lead([LABELS[57]] + ["x"] * 11, [LABELS[0]])]
        table = Table(rows + [Thing([LABELS[31]] + ["x"] * 4 + ["k"], 9)])
        places = 58 * 11
        start = 31 * 11 + 4
        for times in (10 ** 30, 10 ** 30 - 77, places, places - 1):
            left = (start - times) % places
            word = [([LABELS[0]], 1), (["x"], times), (["x"], left), (["k"], 1)]
            self.assertEqual(far_answer(table, word), ("thing", 9))
            self.assertEqual(far_moves(table, word), (times + left) // 11)
            word[2] = (["x"], left + 1)
            self.assertEqual(far_answer(table, word), NOTHING)

    def test_words_that_calls_have_returned(self):
        table = Table([Lead(["x"], ["x", "y", "z"]), Lead(["y"], ["z", "z"]), Thing(["k"], 1)])
        down = Table([Lead(["x"], []), Lead(["y"], ["z", "z"]), Lead(["z"], []), Thing(["k"], 1)])
        word = name_after(table, ["x", "k"], 10 ** 29)
        self.assertEqual((far_answer(table, word), far_moves(table, word)), (GROWS, None))
        self.assertEqual((far_answer(down, word), far_moves(down, word)), (("thing", 1), 4 * 10 ** 29 + 1))

    def test_names_that_calls_have_returned(self):
        table = Table([Lead(["x"], ["x"] + ["y"] * 11), Lead(["r"], ["r"])])
        long = walk_of(table, ["x", "k"], 1000)[-1]
        self.assertEqual(len(long), 2 + 999 * 11)
        self.assertEqual((growth_of(table, long), ring_of(table, long)), (1, None))
        self.assertEqual(sum(len(part) * times for part, times in name_after(table, long, HUGE)),
                         len(long) + 11 * HUGE)
        self.assertEqual(ring_of(table, ("r",) + long), (0, 1))
        down = Table([Lead(["x"], []), Lead(["y"], ["z"]), Lead(["z"], []), Lead(["r"], ["y", "r"]), Thing(["k"], 1)])
        self.assertEqual(expand(name_after(down, long, 1 + 2 * 999)), long[1000:])
        self.assertEqual(ring_of(down, long[1:-1] + ("r",) + long), (999 * 22 - 2, 3))
        self.assertEqual(far_moves(down, [(long, 10 ** 30)]), 10 ** 30 - 10 ** 30 + 1 + 22 * 999)


class TableTest(unittest.TestCase):
    def check(self, table):
        """Tables that calls return are handed in again."""
        least = least_table(table)
        only = only_table(table, ("thing", 1))
        for other in (table, least):
            self.assertEqual((least_table(other), only_table(other, ["thing", 1])), (least, only))
            self.assertEqual((least_count(other), least_parts(other)), (len(least.rows), least_parts(table)))
            self.assertEqual(count_normal(other), count_normal(table))
            self.assertIsNone(unlike_name(other, table))
            self.assertIsNone(unlike_name(least, other))
        self.assertEqual(idle_rows(least), [])
        self.assertEqual(idle_rows(only), [])
        self.assertEqual(only_table(only, ("thing", 1)), only)
        self.assertLessEqual(len(only.rows), 60)
        answers = [("thing", 1), NOTHING, ROUND, GROWS]
        self.assertEqual([first_name(table, answer) for answer in answers],
                         [first_name(least, answer) for answer in answers])
        return least

    def test_sixty_rows_of_twelve_labels(self):
        table = Table(chain(59) + [Thing([LABELS[59]] + ["x"] * 11, 1)])
        least = self.check(table)
        self.assertEqual(len(least.rows), 60)
        # Each class but that of the root and the last ones is the home of the next; those with a label have one more.
        self.assertEqual(count_normal(table), 2 ** 59)
        self.assertEqual(least_parts(table), (1, 0, 0, 60 + 59 * 11 + 10, 2 + 59 * 11 + 10))
        flat = flat_table(table)
        self.assertEqual(len(flat.rows), 60)
        self.assertEqual(max(len(row.name) for row in flat.rows), 1 + 60 * 11)
        self.assertEqual((least_table(flat), flat_table(flat), idle_rows(flat)), (least, flat, []))
        self.assertIsNone(unlike_name(flat, table))
        self.assertEqual(answer_of(flat, ["aa"] + ["x"] * 660), ("thing", 1))
        self.assertEqual(count_names(flat, ["x", "aa"], 200, ("thing", 1)), 0)
        self.assertEqual(name_at(flat, ["x", "aa"], 661, ("thing", 1), 0), ("aa",) + ("x",) * 660)
        self.assertEqual(name_after(flat, ["aa"] * 200, 0), [(("aa",) * 200, 1)])
        self.assertEqual(place_of(flat, ["ab"] + ["x"] * 300), ("node", ("ab",) + ("x",) * 300))

    def test_tables_of_some_sixty_rows(self):
        source = random.Random(6)
        labels = LABELS[:3]
        for _ in range(12):
            rows = []
            while len(rows) < 60:
                name, target = ([source.choice(labels) for _ in range(source.randrange(13))] for _ in range(2))
                kind = source.choice([Lead, Lead, Other, Thing, Rest, Stop])
                row = Stop(name) if kind == Stop else kind(name, target if kind in (Lead, Other) else source.randrange(3))
                try:
                    Table(rows + [row])
                except ValueError:
                    continue
                rows.append(row)
            least = self.check(Table(rows))
            for _ in range(60):
                name = [source.choice(labels) for _ in range(source.randrange(1, 201))]
                self.assertEqual(answer_of(Table(rows), name), answer_of(least, name))
                moves = count_moves(Table(rows), name)
                if moves is not None:
                    self.assertIsNone(name_after(Table(rows), name, moves + 1))
                    last = expand(name_after(Table(rows), name, moves))
                    self.assertEqual(next_of(Table(rows), last), answer_of(least, name))

    def test_flat_tables_of_many_rows(self):
        rows = [Lead(["p", LABELS[at], one], ["p", LABELS[at + 1]]) for at in range(7) for one in ("x", "y")]
        rows += [Thing(["p", LABELS[at], "z"], at % 3) for at in range(8)] + [Rest(["p", LABELS[7], "x"], 1)]
        table = Table(rows)
        flat = flat_table(table)
        # Below the label that is so many ahead of the last one: twice as many rows as below the next, and one more.
        self.assertEqual(len(flat.rows), sum(3 * 2 ** at - 1 for at in range(8)))
        self.assertIsNone(unlike_name(flat, table))
        self.assertEqual((flat_table(flat), least_table(flat), idle_rows(flat)), (flat, least_table(table), []))
        self.assertEqual((count_normal(flat), is_least(flat)), (count_normal(table), False))
        # Each of the eight classes but the first one hangs on that of p, or in two ways on the one ahead of it.
        self.assertEqual(count_normal(table), 3 ** 7)
        with self.assertRaises(Large) as caught:
            flat_table(Table(rows[1:] + [Lead(["p", LABELS[0], "x"], ["p", LABELS[1]]), Lead(["q"], ["p"])]))
        self.assertEqual(caught.exception.count, 2 * len(flat.rows))

    def test_many_marked_labels(self):
        things = [Thing([label], at) for at, label in enumerate(LABELS[:59])]
        table = Table(things + [Lead(["x"], [])])
        self.assertEqual((least_parts(table), count_normal(table)), ((59, 0, 0, 1, 1), 1))
        self.assertEqual(least_table(table), table)
        self.assertEqual(idle_rows(table), [])
        self.assertEqual(first_name(table, ("thing", 58)), (LABELS[58],))


if __name__ == "__main__":
    unittest.main()
