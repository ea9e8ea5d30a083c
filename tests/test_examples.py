"""The examples of the document that use nothing but errors, tables, moving and reading."""

import unittest

from lednames.errors import BadRow, BadTable
from lednames.moving import next_of, walk_of
from lednames.reading import answer_of, count_moves, place_of, row_uses
from lednames.tables import Lead, Rest, Stop, Table, Thing, nodes_of


class ExamplesTest(unittest.TestCase):
    def test_next_of(self):
        table = Table([Lead(['x'], ['y']), Thing(['y', 'z'], 1), Rest(['y'], 2)])
        self.assertEqual(
            (next_of(table, ['x', 'z']), next_of(table, ['x']), next_of(table, ['y', 'q', 'q'])),
            (('to', ('y', 'z')), ('nothing',), ('thing', 2)))

    def test_bad_row(self):
        with self.assertRaises(BadRow) as caught:
            Lead(['x', 'Y'], [])
        self.assertEqual(caught.exception.what, 'name')

    def test_bad_table(self):
        with self.assertRaises(BadTable) as caught:
            Table([Lead(['x'], []), Stop(['x', 'y'])])
        self.assertEqual((caught.exception.what, caught.exception.name), ('under', ('x', 'y')))

    def test_nodes_of(self):
        self.assertEqual(
            nodes_of(Table([Thing(['b', 'a'], 1), Rest(['a'], 2)])),
            [(), ('a',), ('b',), ('b', 'a')])

    def test_walk_of(self):
        table = Table([Lead(['x'], ['y', 'y']), Lead(['y'], [])])
        self.assertEqual(walk_of(table, ['x', 'k'], 9), [('x', 'k'), ('y', 'y', 'k'), ('y', 'k'), ('k',)])

    def test_count_moves_and_row_uses(self):
        table = Table([Lead(['x'], ['y', 'y']), Lead(['y'], [])])
        self.assertEqual(
            (answer_of(table, ['x', 'k']), count_moves(table, ['x', 'k']),
             [number for row, number in row_uses(table, ['x', 'k'])]),
            (('nothing',), 3, [1, 2]))

    def test_names_without_an_end(self):
        table = Table([Lead(['x'], ['x', 'x']), Lead(['y'], ['z']), Lead(['z'], ['y'])])
        self.assertEqual(
            (answer_of(table, ['x', 'k']), answer_of(table, ['y', 'k']), place_of(table, ['y'])),
            (('grows',), ('round',), ('all', ('round',))))

    def test_place_of(self):
        table = Table([Lead(['x'], ['y']), Thing(['y', 'z'], 1), Rest(['y'], 2)])
        self.assertEqual(
            (place_of(table, ['x']), place_of(table, ['x', 'z']), place_of(table, ['x', 'q'])),
            (('node', ('y',)), ('node', ('y', 'z')), ('all', ('thing', 2))))

    def test_many_moves(self):
        rows = [Lead(['abcdefghijklmnopqrst'[k]], ['abcdefghijklmnopqrst'[k + 1]] * 2) for k in range(19)]
        self.assertEqual(count_moves(Table(rows + [Lead(['t'], [])]), ['a', 'z']) == 2 ** 20 - 1, True)


if __name__ == "__main__":
    unittest.main()
