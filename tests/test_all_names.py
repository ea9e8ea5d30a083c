"""Points 8 to 13 on many small tables: all names of up to three labels, by moves that are made one by one."""

import itertools
import random
import unittest

from lednames.counting import count_names, first_name, name_at
from lednames.far import far_answer, far_moves, growth_of, name_after, ring_of
from lednames.least import (count_normal, flat_table, is_least, least_count, least_parts, least_table, only_table)
from lednames.likeness import idle_rows, unlike_name
from lednames.reading import place_of
from lednames.tables import Lead, Other, Rest, Stop, Table, Thing
from tests.plain import labels_of, plain_move, plain_walk
from tests.test_against_plain import ASKED, names_of, some_tables
from tests.test_least import plain_trees

NOTHING = ("nothing",)
ANSWERS = [("thing", 0), ("thing", 1), ("thing", 2), NOTHING, ("round",), ("grows",)]


def expand(word):
    return tuple(label for name, times in word for label in name * times)


def plain_answers(table, names):
    return {name: plain_walk(table.rows, name)[0] for name in names}


def graph_of(rows):
    """Return the edges between the homes of a normal table, told from its rows."""
    homes = sorted({row.name[:length] for row in rows for length in range(len(row.name))} | {()})
    edges = [{} for home in homes]
    pairs = [(home[:-1], home) for home in homes[1:]]
    pairs += [(row.name[:-1], row.target) for row in rows if isinstance(row, Lead) and row.target in homes]
    for before, after in pairs:
        at, to = homes.index(before), homes.index(after)
        edges[at][to] = edges[at].get(to, 0) + 1
    return edges


class FarTest(unittest.TestCase):
    def test_names_after_moves(self):
        for rows, many in ((2, 60), (4, 150), (6, 150), (8, 60)):
            for table in some_tables(rows + 10, many, rows):
                for name in ASKED[:13] + ASKED[13::3]:
                    self.compare(table, name)

    def compare(self, table, name):
        answer, moves, used, names = plain_walk(table.rows, name)
        for count, expected in list(enumerate(names))[:30] + list(enumerate(names))[-3:]:
            self.assertEqual(expand(name_after(table, name, count)), expected)
        ring = growth = None
        if answer == ("round",):
            before = names.index(plain_move(table.rows, names[-1])[0])
            ring = (before, len(names) - before)
            place = before + (10 ** 300 - before) % ring[1]
            self.assertEqual(expand(name_after(table, name, 10 ** 300)), names[place])
        elif answer == ("grows",):
            growth = max(count for count, other in enumerate(names) if len(other) <= len(name)) + 1
            word = name_after(table, name, 10 ** 300)
            self.assertGreater(sum(len(part) * times for part, times in word), 10 ** 298)
        else:
            self.assertIsNone(name_after(table, name, moves + 1))
            self.assertIsNone(name_after(table, name, 10 ** 300))
        self.assertEqual((ring_of(table, name), growth_of(table, name)), (ring, growth))

    def test_growth_by_leads_of_long_names(self):
        source = random.Random(3)
        names = names_of("ab", 4)[3:]
        found = 0
        while found < 1500:
            rows = [Lead(source.choice(names[:12]), source.choice(names)) for _ in range(source.randrange(2, 6))]
            try:
                table = Table(rows)
            except ValueError:
                continue
            for _ in range(10):
                name = tuple(source.choice("ab") for _ in range(source.randrange(2, 9)))
                if place_of(table, name[:-1]) == ("all", ("grows",)):
                    found += 1
                    self.compare(table, name)

    def test_far_names(self):
        source = random.Random(8)
        for rows in (3, 5, 7):
            for table in some_tables(rows + 20, 150, rows):
                for _ in range(6):
                    word = [(source.choice(ASKED), source.choice([0, 1, 2, 3, 9])) for _ in range(source.randrange(5))]
                    answer, moves = plain_walk(table.rows, expand(word))[:2]
                    self.assertEqual((far_answer(table, word), far_moves(table, word)), (answer, moves))


class ClassesTest(unittest.TestCase):
    def test_alike_and_unlike(self):
        source = random.Random(5)
        kinds = {True: 0, False: 0}
        for rows in (1, 2, 3, 4):
            tables = some_tables(rows + 30, 120, rows)
            for table, other in zip(tables, tables[1:]):
                for second in (other, Table([row for row in table.rows if source.random() < 0.7])):
                    names = names_of(labels_of(table, second), 3)
                    one, two = plain_answers(table, names), plain_answers(second, names)
                    unlike = next((name for name in names if one[name] != two[name]), None)
                    found = unlike_name(table, second)
                    if found is not None and len(found) > 3:
                        self.assertNotEqual(plain_walk(table.rows, found)[0], plain_walk(second.rows, found)[0])
                        found = None
                    self.assertEqual(found, unlike)
                    kinds[found is None] += 1
        self.assertGreater(min(kinds.values()), 100)

    def test_idle_rows(self):
        for rows in (2, 4, 6):
            for table in some_tables(rows + 40, 150, rows):
                idle = [row for row in table.rows
                        if unlike_name(table, Table([other for other in table.rows if other != row])) is None]
                self.assertEqual(idle_rows(table), idle)

    def test_least_tables(self):
        for rows in (1, 3, 5, 7):
            for table in some_tables(rows + 50, 120, rows):
                least = least_table(table)
                count = least_count(table)
                self.assertEqual(len(least.rows), count)
                self.assertLessEqual(count, len(table.rows))
                self.assertEqual(is_least(table), count == len(table.rows))
                self.assertEqual(plain_answers(table, ASKED), plain_answers(least, ASKED))
                self.assertIsNone(unlike_name(table, least))
                self.assertEqual(least_table(least), least)
                self.assertEqual(least_parts(least), least_parts(table))
                self.assertEqual(count_normal(least), count_normal(table))
                self.check_growing(table, least)

    def test_numbers_of_normal_tables(self):
        source = random.Random(4)
        names = names_of("abc", 3)
        numbers = {}
        for _ in range(200):
            rows = []
            while len(rows) < 9:
                lead = Lead(source.choice(names), source.choice(names))
                row = source.choice([lead, lead, Thing(source.choice(names), 1)])
                try:
                    Table(rows + [row])
                except ValueError:
                    continue
                rows.append(row)
            number = count_normal(Table(rows))
            self.assertEqual(number, plain_trees(graph_of(least_table(Table(rows)).rows)))
            numbers[number] = True
        self.assertGreater(len(numbers), 5)

    def check_growing(self, table, least):
        """The target of each Other that grows is the label a behind the least name below which all names grow."""
        for row in least.rows:
            if isinstance(row, Other) and row.target != row.name:
                names = names_of(labels_of(table), len(row.target) - 1)
                first = next(name for name in names if place_of(table, name) == ("all", ("grows",)))
                self.assertEqual(row.target, first + ("a",))

    def test_tables_for_one_answer(self):
        for table in some_tables(60, 80, 4) + some_tables(61, 40, 7):
            answers = plain_answers(table, ASKED)
            for answer in ANSWERS:
                only = only_table(table, answer)
                found = plain_answers(only, ASKED)
                for name in ASKED:
                    self.assertEqual(found[name], ("thing", 1) if answers[name] == answer else NOTHING)
                self.assertEqual(least_table(only), only)

    def test_flat_tables(self):
        found = 0
        for table in some_tables(70, 200, 3) + some_tables(71, 200, 5):
            flat = flat_table(table)
            if flat is not None:
                found += 1
                self.assertFalse([row for row in flat.rows if isinstance(row, (Lead, Other))])
                self.assertEqual(plain_answers(table, ASKED), plain_answers(flat, ASKED))
                self.assertIsNone(unlike_name(table, flat))
                self.assertEqual(idle_rows(flat), [])
        self.assertGreater(found, 50)

    def test_flat_tables_have_the_fewest_rows(self):
        names = names_of(("a", "b"), 2)
        rows = [Thing(name, 1) for name in names[:5]] + [Rest(name, 1) for name in names] + [Stop(name) for name in names]
        groups = {}
        for many in range(4):
            for some in itertools.combinations(rows, many):
                table = Table(some)
                key = tuple(plain_walk(table.rows, name)[0] for name in names_of(("a", "b", "c"), 2))
                key += tuple(plain_walk(table.rows, name + ("a", "a"))[0] for name in names)
                groups.setdefault(key, []).append(table)
        for tables in groups.values():
            best = min(tables, key=lambda table: (len(table.rows), [(len(row.name), row.name) for row in table.rows
                                                                   if isinstance(row, Stop)]))
            self.assertEqual(flat_table(tables[-1]), best)


class CountingTest(unittest.TestCase):
    def test_first_names(self):
        for table in some_tables(80, 150, 3) + some_tables(81, 60, 6):
            names = names_of(labels_of(table), 3)
            answers = plain_answers(table, names)
            for answer in ANSWERS:
                found = first_name(table, answer)
                if found is not None and len(found) > 3:
                    self.assertEqual(plain_walk(table.rows, found)[0], answer)
                    found = None
                self.assertEqual(found, next((name for name in names if answers[name] == answer), None))

    def test_numbers_of_names(self):
        for table in some_tables(90, 40, 4) + some_tables(91, 30, 6):
            for labels in (["c", "a", "b"], ["b", "d"], ["a"]):
                answers = plain_answers(table, names_of(sorted(labels), 3))
                for length, answer in itertools.product(range(4), ANSWERS):
                    names = [name for name in answers if len(name) == length and answers[name] == answer]
                    self.assertEqual(count_names(table, labels, length, answer), len(names))
                    self.assertEqual([name_at(table, labels, length, answer, place) for place in range(len(names))], names)


if __name__ == "__main__":
    unittest.main()
