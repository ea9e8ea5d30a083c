"""The examples of the document, all of them."""

import unittest

from lednames.changes import Drop, Put, Swap, safe_order
from lednames.counting import count_names, first_name, name_at
from lednames.desk import Desk
from lednames.errors import BadRow, BadTable, BadText
from lednames.far import far_answer, far_moves, growth_of, ring_of
from lednames.least import count_normal, flat_table, is_least, least_count, least_parts, least_table
from lednames.ledtexts import read_table, table_text
from lednames.likeness import idle_rows, unlike_name
from lednames.moving import next_of, walk_of
from lednames.reading import answer_of, count_moves, place_of, row_uses
from lednames.tables import Lead, Rest, Stop, Table, Thing, nodes_of
from lednames.tearing import torn_answers, torn_name


class ExamplesTest(unittest.TestCase):
    def test_next_of(self):
        table = Table([Lead(['x'], ['y']), Thing(['y', 'z'], 1), Rest(['y'], 2)])
        self.assertEqual(
            (next_of(table, ['x', 'z']), next_of(table, ['x']), next_of(table, ['y', 'q', 'q'])),
            (('to', ('y', 'z')), ('nothing',), ('thing', 2)))

    def test_bad_row(self):
        with self.assertRaises(BadRow) as caught:
            Lead(['x', 'Y'], [])
        self.assertEqual(caught.exception.what, 'name')

    def test_bad_table(self):
        with self.assertRaises(BadTable) as caught:
            Table([Lead(['x'], []), Stop(['x', 'y'])])
        self.assertEqual((caught.exception.what, caught.exception.name), ('under', ('x', 'y')))

    def test_nodes_of(self):
        self.assertEqual(
            nodes_of(Table([Thing(['b', 'a'], 1), Rest(['a'], 2)])),
            [(), ('a',), ('b',), ('b', 'a')])

    def test_walk_of(self):
        table = Table([Lead(['x'], ['y', 'y']), Lead(['y'], [])])
        self.assertEqual(walk_of(table, ['x', 'k'], 9), [('x', 'k'), ('y', 'y', 'k'), ('y', 'k'), ('k',)])

    def test_count_moves_and_row_uses(self):
        table = Table([Lead(['x'], ['y', 'y']), Lead(['y'], [])])
        self.assertEqual(
            (answer_of(table, ['x', 'k']), count_moves(table, ['x', 'k']),
             [number for row, number in row_uses(table, ['x', 'k'])]),
            (('nothing',), 3, [1, 2]))

    def test_names_without_an_end(self):
        table = Table([Lead(['x'], ['x', 'x']), Lead(['y'], ['z']), Lead(['z'], ['y'])])
        self.assertEqual(
            (answer_of(table, ['x', 'k']), answer_of(table, ['y', 'k']), place_of(table, ['y'])),
            (('grows',), ('round',), ('all', ('round',))))

    def test_place_of(self):
        table = Table([Lead(['x'], ['y']), Thing(['y', 'z'], 1), Rest(['y'], 2)])
        self.assertEqual(
            (place_of(table, ['x']), place_of(table, ['x', 'z']), place_of(table, ['x', 'q'])),
            (('node', ('y',)), ('node', ('y', 'z')), ('all', ('thing', 2))))

    def test_many_moves(self):
        rows = [Lead(['abcdefghijklmnopqrst'[k]], ['abcdefghijklmnopqrst'[k + 1]] * 2) for k in range(19)]
        self.assertEqual(count_moves(Table(rows + [Lead(['t'], [])]), ['a', 'z']) == 2 ** 20 - 1, True)

    def test_ring_of_and_growth_of(self):
        table = Table([Lead(['x'], ['x', 'x']), Lead(['y'], ['z']), Lead(['z'], ['y']), Lead(['w'], ['y'])])
        self.assertEqual(
            (ring_of(table, ['w', 'k']), growth_of(table, ['x', 'k']), growth_of(table, ['w', 'k'])),
            ((1, 2), 1, None))

    def test_far_names(self):
        table = Table([Lead(['x'], []), Thing(['k'], 7)])
        word = [(['x'], 10 ** 20), (['k'], 1)]
        self.assertEqual((far_answer(table, word), far_moves(table, word) == 10 ** 20), (('thing', 7), True))

    def test_unlike_name(self):
        table = Table([Lead(['x'], ['y']), Thing(['y', 'z'], 1), Rest(['y'], 2)])
        self.assertEqual(
            unlike_name(table, Table([Thing(['y', 'z'], 1), Thing(['x', 'z'], 1), Rest(['x'], 2), Rest(['y'], 3)])),
            ('y', 'a'))

    def test_idle_rows(self):
        self.assertEqual(
            idle_rows(Table([Thing(['a'], 1), Stop(['a', 'b']), Stop(['c'])])) == [Stop(['c']), Stop(['a', 'b'])],
            True)

    def test_least_number_of_rows(self):
        rows = [Thing(['a', 'x'], 1), Thing(['a', 'y'], 2), Thing(['b', 'x'], 1), Thing(['b', 'y'], 2)]
        table = Table(rows)
        self.assertEqual((least_count(table), least_parts(table), count_normal(table)), (3, (2, 0, 0, 2, 2), 2))

    def test_least_table(self):
        rows = [Thing(['a', 'x'], 1), Thing(['a', 'y'], 2), Thing(['b', 'x'], 1), Thing(['b', 'y'], 2)]
        self.assertEqual(table_text(least_table(Table(rows))), 'lead b a; thing a.x 1; thing a.y 2')

    def test_is_least(self):
        self.assertEqual(
            (is_least(Table([Thing(['x'], 1), Lead(['x'], [])])), least_count(Table([Rest([], 1), Stop(['a'])])),
             least_count(Table([]))),
            (True, 2, 0))

    def test_flat_table(self):
        table = Table([Lead(['x'], ['y']), Thing(['y', 'z'], 1), Rest(['y'], 2)])
        self.assertEqual(table_text(flat_table(table)), 'rest x 2; rest y 2; thing x.z 1; thing y.z 1')

    def test_names_with_an_answer(self):
        table = Table([Thing(['x'], 1), Lead(['x'], [])])
        self.assertEqual(
            (first_name(table, ('thing', 1)), count_names(table, ['x', 'y'], 5, ('thing', 1)),
             name_at(table, ['y', 'x'], 2, ('nothing',), 1)),
            (('x',), 1, ('y', 'x')))

    def test_torn_names(self):
        one = Table([Lead(['a'], ['b']), Thing(['b', 'c'], 1)])
        other = Table([Lead(['a'], ['d']), Thing(['d', 'c'], 1)])
        self.assertEqual(
            (torn_answers(one, other, ['a', 'c']), torn_name(one, other)),
            ([('thing', 1), ('nothing',)], (('a', 'c'), ('nothing',))))

    def test_safe_order(self):
        table = Table([Lead(['a'], ['b']), Thing(['b', 'c'], 1)])
        changes = [Drop(Thing(['b', 'c'], 1)), Swap(Lead(['a'], ['b']), Lead(['a'], ['d'])), Put(Thing(['d', 'c'], 1))]
        self.assertEqual(safe_order(table, changes), [2, 1, 0])

    def test_bad_text(self):
        with self.assertRaises(BadText) as caught:
            read_table('thing . 1; lead a')
        self.assertEqual(caught.exception.place, 1)

    def test_desk(self):
        desk = Desk()
        desk.tell('put lead x x.x')
        desk.tell('put thing a.b 5')
        self.assertEqual(
            (desk.tell('ask x.k'), desk.tell('moves x.k'), desk.tell('first thing 5'), desk.tell('put lead x y')),
            (['grows'], ['none'], ['a.b'], ['refused badtable']))


if __name__ == "__main__":
    unittest.main()
