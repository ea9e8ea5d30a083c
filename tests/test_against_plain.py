"""Points 6 and 7: many small tables, compared with moves that are made one by one."""

import itertools
import random
import unittest

from lednames.errors import BadTable
from lednames.moving import next_of, walk_of
from lednames.reading import answer_of, count_moves, place_of, row_uses
from lednames.tables import Lead, Other, Rest, Stop, Table, Thing, nodes_of
from tests.plain import is_node, plain_move, plain_place, plain_uses, plain_walk


def names_of(labels, most):
    return [name for length in range(most + 1) for name in itertools.product(labels, repeat=length)]


NAMES = names_of(("a", "b"), 2)
ASKED = names_of(("a", "b", "c"), 3)


def some_row(source):
    name = source.choice(NAMES)
    kind = source.choice([Thing, Other, Lead, Lead, Lead, Rest, Stop])
    if kind in (Thing, Rest):
        return kind(name, source.randrange(3))
    if kind == Stop:
        return Stop(name)
    return kind(name, source.choice(NAMES + names_of(("a", "b"), 3)[-8:]))


def some_tables(seed, many, rows):
    source = random.Random(seed)
    tables = []
    while len(tables) < many:
        try:
            tables.append(Table([some_row(source) for _ in range(rows)]))
        except BadTable:
            pass
    return tables


class AgainstPlainTest(unittest.TestCase):
    def compare(self, table):
        rows = table.rows
        for name in ASKED:
            answer, moves, used, names = plain_walk(rows, name)
            self.assertEqual(answer_of(table, name), answer)
            self.assertEqual(count_moves(table, name), moves)
            self.assertEqual(row_uses(table, name), plain_uses(rows, name))
            self.assertEqual(place_of(table, name), plain_place(rows, name))
            target, told, row = plain_move(rows, name)
            self.assertEqual(next_of(table, name), told if target is None else ("to", target))
            if moves is not None:
                self.assertEqual(walk_of(table, name, 2000), names)
            else:
                self.assertEqual(walk_of(table, name, len(names)), names)
        nodes = [name for name in names_of(("a", "b"), 3) if is_node(rows, name)]
        self.assertEqual(nodes_of(table), nodes)

    def test_tables_with_one_lead(self):
        for name, target in itertools.product(NAMES, NAMES):
            self.compare(Table([Lead(name, target)]))

    def test_tables_of_some_rows(self):
        for rows, many in ((2, 100), (3, 300), (4, 300), (6, 100)):
            for table in some_tables(rows, many, rows):
                self.compare(table)

    def test_tables_of_leads_alone(self):
        short = NAMES[1:3]
        for first, second in itertools.product(NAMES, repeat=2):
            self.compare(Table([Lead(short[0], first), Lead(short[1], second)]))

    def test_all_answers_come_up(self):
        answers = {answer_of(table, name)[0] for table in some_tables(4, 50, 4) for name in ASKED}
        self.assertEqual(answers, {"thing", "nothing", "round", "grows"})


class FirstFactTest(unittest.TestCase):
    def test_a_place_tells_what_becomes_of_all_names_below(self):
        for table in some_tables(77, 150, 4):
            for name in NAMES:
                kind, what = place_of(table, name)
                for behind in ASKED[1:]:
                    answer = answer_of(table, name + behind)
                    if kind == "node":
                        self.assertIsNone(next((row for row in table.rows if row.name == what
                                                and isinstance(row, Lead)), None))
                        self.assertEqual(answer, answer_of(table, what + behind))
                        self.assertEqual(place_of(table, name + behind), place_of(table, what + behind))
                    else:
                        self.assertEqual(answer, what)


if __name__ == "__main__":
    unittest.main()
