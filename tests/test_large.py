"""Point 7 at the bounds: 60 rows, names of 12 labels in rows, names of 200 labels, exponential numbers of moves."""

import unittest

from lednames.moving import next_of, walk_of
from lednames.reading import answer_of, count_moves, place_of, row_uses
from lednames.tables import Lead, Other, Rest, Stop, Table, Thing

LABELS = [one + other for one in "abcdefgh" for other in "abcdefgh"]


def chain(many, times, end):
    """Leads of which each one leads to the next label, so often; the last one leads to `end`."""
    rows = [Lead([LABELS[at]], [LABELS[at + 1]] * times) for at in range(many - 1)]
    return rows + [Lead([LABELS[many - 1]], end)]


class LargeTest(unittest.TestCase):
    def test_doubling(self):
        rows = chain(60, 2, [])
        table = Table(rows)
        self.assertEqual(answer_of(table, ["aa", "z"]), ("nothing",))
        self.assertEqual(count_moves(table, ["aa", "z"]), 2 ** 60 - 1)
        self.assertEqual(row_uses(table, ["aa", "z"]), [(rows[at], 2 ** at) for at in range(60)])
        self.assertEqual(place_of(table, ["aa"]), ("node", ()))
        self.assertEqual(count_moves(table, ["aa"] * 199 + ["z"]), 199 * (2 ** 60 - 1))
        self.assertEqual(count_moves(table, ["aa"] * 200), 199 * (2 ** 60 - 1))
        self.assertEqual(count_moves(table, ["aa", LABELS[59]]), 2 ** 60 - 1)

    def test_doubling_to_a_thing(self):
        table = Table(chain(58, 2, []) + [Thing(["z"], 5), Other(["y"], ["aa", "aa", "z"])])
        self.assertEqual(answer_of(table, ["y"]), ("thing", 5))
        self.assertEqual(count_moves(table, ["y"]), 2 ** 59 - 1)
        self.assertEqual(count_moves(table, ["ab", "y"]), 2 ** 57 - 1 + 2 ** 59 - 1)
        uses = row_uses(table, ["y"])
        self.assertEqual(uses[-2:], [(Other(["y"], ["aa", "aa", "z"]), 1), (Thing(["z"], 5), 1)])
        self.assertEqual(uses[57][1], 2 ** 58)

    def test_twelve_times(self):
        table = Table(chain(60, 12, []))
        name = ["aa"] * 199 + ["z"]
        self.assertEqual(count_moves(table, name), 199 * ((12 ** 60 - 1) // 11))
        self.assertEqual([many for row, many in row_uses(table, name)], [199 * 12 ** at for at in range(60)])

    def test_names_of_twelve_labels(self):
        names = [["k"] * 10 + [LABELS[at], "k"] for at in range(59)] + [["k"] * 11]
        rows = [Lead(names[at], names[at + 1]) for at in range(58)]
        table = Table(rows + [Lead(names[58], names[58][:11]), Rest(["k"] * 11, 3)])
        self.assertEqual(len(table.rows), 60)
        # The last lead takes off one label each time, and is come to again with each of the labels behind.
        self.assertEqual(count_moves(table, names[0] + ["k"] * 188), 58 + 188)
        self.assertEqual(count_moves(table, names[0] + ["z"] * 188), 59)
        self.assertEqual(answer_of(table, names[0] + ["z"] * 188), ("nothing",))
        self.assertEqual(answer_of(table, ["k"] * 200), ("thing", 3))
        self.assertEqual(place_of(table, names[0]), ("node", tuple(names[58][:11])))

    def test_exponential_before_a_ring_and_before_growth(self):
        cases = [
            (["hh"], ("nothing",)), ([LABELS[59]], ("round",)), (["aa"], ("grows",)),
            ([LABELS[59]] * 2, ("grows",)),
        ]
        for end, answer in cases:
            table = Table(chain(60, 2, end))
            self.assertEqual(answer_of(table, ["aa", "z"]), answer)
            self.assertEqual(place_of(table, ["aa"]), ("all", answer))
            self.assertEqual(count_moves(table, ["aa", "z"]), 60 if answer == ("nothing",) else None)

    def test_long_moves_on_the_way_round(self):
        # Sixty leads: 58 double each other down to the root; the other two go round, past all of these moves.
        rows = chain(58, 2, [])
        for behind, answer in (([], ("round",)), (["z"], ("grows",))):
            table = Table(rows + [Lead(["x"], ["aa", "y"] + behind), Lead(["y"], ["aa", "aa", "x"])])
            for name in (["x", "k"], ["y", "k"], ["aa", "x", "k"]):
                self.assertEqual(answer_of(table, name), answer)
                self.assertIsNone(count_moves(table, name))
                self.assertIsNone(row_uses(table, name))
            self.assertEqual(count_moves(table, ["aa", "x"]), 2 ** 58 - 1)

    def test_a_ring_of_sixty(self):
        ring = [Lead([LABELS[at]], [LABELS[at + 1]]) for at in range(59)]
        name = ["aa"] * 200
        self.assertEqual(answer_of(Table(ring + [Lead([LABELS[59]], ["aa"])]), name), ("round",))
        self.assertEqual(answer_of(Table(ring + [Lead([LABELS[59]], ["aa", "aa"])]), name), ("grows",))
        self.assertEqual(place_of(Table(ring + [Lead([LABELS[59]], [])]), ["aa"]), ("node", ()))
        others = [Other([LABELS[at]], [LABELS[at + 1]]) for at in range(59)]
        self.assertEqual(count_moves(Table(others), ["aa"]), 59)
        self.assertEqual(answer_of(Table(others + [Other([LABELS[59]], ["ab"])]), ["aa"]), ("round",))

    def test_others_each_with_many_moves(self):
        rows = chain(40, 2, [])
        rows += [Other([LABELS[at]], ["aa", LABELS[at + 1]]) for at in range(40, 59)]
        table = Table(rows + [Thing([LABELS[59]], 6)])
        self.assertEqual(answer_of(table, [LABELS[40]]), ("thing", 6))
        self.assertEqual(count_moves(table, [LABELS[40]]), 19 * 2 ** 40)

    def test_leads_deeper_than_calls_can_be_nested(self):
        labels = [one + two + three for one in "abcdefghij" for two in "abcdefghij" for three in "abcdefghij"]
        rows = [Lead([labels[at]], [labels[at + 1]]) for at in range(999)]
        self.assertEqual(count_moves(Table(rows), ["aaa", "z"]), 999)
        self.assertEqual(answer_of(Table(rows + [Lead([labels[999]], ["aaa", "b"])]), ["aaa", "z"]), ("grows",))

    def test_names_that_a_walk_has_returned(self):
        table = Table([Lead(["x"], ["x"] + ["y"] * 11), Stop(["y"])])
        long = walk_of(table, ["x", "k"], 1000)[-1]
        self.assertEqual(len(long), 2 + 999 * 11)
        self.assertEqual(answer_of(table, long), ("grows",))
        self.assertEqual(next_of(table, long), ("to", ("x",) + ("y",) * 11 + long[1:]))
        down = Table([Lead(["x"], []), Lead(["y"], ["z", "z"]), Lead(["z"], [])])
        self.assertEqual(count_moves(down, long), 1 + 3 * 11 * 999)
        self.assertEqual(answer_of(Table([Other(["a"], long), Thing(long, 4)]), ["a"]), ("thing", 4))
        self.assertEqual(count_moves(Table(list(down.rows) + [Lead(["w"], long)]), ["w", "k"]), 2 + 3 * 11 * 999)


if __name__ == "__main__":
    unittest.main()
