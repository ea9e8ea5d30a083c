"""Point 15: changes of tables, the third fact, and safe orders of changes."""

import itertools
import random
import unittest

from lednames.changes import Drop, Put, Swap, safe_order, table_after
from lednames.errors import BadTable, Large, NoRow
from lednames.exchange import Exchange
from lednames.labels import labels_asked
from lednames.least import flat_table, least_table
from lednames.reading import answer_of
from lednames.tables import Lead, Other, Rest, Stop, Table, Thing
from lednames.tearing import Search, torn_name
from tests.plain import labels_of, plain_torn, plain_walk
from tests.test_against_plain import names_of, some_row, some_tables

ROW = Thing(["a"], 1)
OTHER = Stop(["b"])


def large_flat_table():
    """Return a table of 819 rows that a call has returned."""
    letters = "abcdefghi"
    rows = [Lead(["a", letter], ["b"]) for letter in letters] + [Lead(["b", letter], ["c"]) for letter in letters]
    return flat_table(Table(rows + [Thing(["c", letter], at) for at, letter in enumerate(letters)]))


class ChangesTest(unittest.TestCase):
    def test_fields(self):
        self.assertEqual((Put(ROW).row, Drop(ROW).row, Swap(ROW, OTHER).row, Swap(ROW, OTHER).other),
                         (ROW, ROW, ROW, OTHER))
        self.assertEqual((Put(row=ROW), Drop(row=ROW), Swap(other=OTHER, row=ROW)),
                         (Put(ROW), Drop(ROW), Swap(ROW, OTHER)))

    def test_equality(self):
        for kind in (Put, Drop):
            self.assertIs(kind(ROW) == kind(Thing(("a",), 1)), True)
            self.assertIs(kind(ROW) == kind(OTHER), False)
            self.assertIs(kind(ROW) != kind(OTHER), True)
        self.assertIs(Swap(ROW, OTHER) == Swap(Thing(["a"], 1), Stop(["b"])), True)
        self.assertIs(Swap(ROW, OTHER) == Swap(OTHER, ROW), False)
        self.assertIs(Swap(ROW, OTHER) == Swap(ROW, ROW), False)
        self.assertIs(Swap(ROW, OTHER) == Swap(OTHER, OTHER), False)
        for one, other in itertools.permutations([Put(ROW), Drop(ROW), Swap(ROW, ROW), ROW, None, 1, (ROW,)], 2):
            self.assertIs(one == other, False)


class TableAfterTest(unittest.TestCase):
    def test_put(self):
        table = Table([Stop(["b"]), Rest([], 3)])
        self.assertEqual(table_after(table, Put(ROW)), Table([Rest([], 3), ROW, Stop(["b"])]))
        self.assertEqual(table_after(table, Put(Stop(["b"]))), table)
        self.assertEqual(table, Table([Stop(["b"]), Rest([], 3)]))
        self.assertEqual(table_after(Table([]), Put(ROW)).rows, (ROW,))

    def test_drop(self):
        table = Table([ROW, Stop(["a"]), Rest([], 3)])
        self.assertEqual(table_after(table, Drop(Thing(["a"], 1))), Table([Stop(["a"]), Rest([], 3)]))
        self.assertEqual(table_after(Table([ROW]), Drop(ROW)), Table([]))
        self.assertEqual(len(table.rows), 3)

    def test_swap(self):
        table = Table([ROW, Stop(["c"])])
        self.assertEqual(table_after(table, Swap(ROW, Thing(["a"], 2))), Table([Thing(["a"], 2), Stop(["c"])]))
        self.assertEqual(table_after(table, Swap(ROW, Other(["a"], []))), Table([Other(["a"], []), Stop(["c"])]))
        self.assertEqual(table_after(table, Swap(ROW, Stop(["c"]))), Table([Stop(["c"])]))
        self.assertEqual(table_after(table, Swap(ROW, ROW)), table)
        # The row is away before the other one is there.
        led = Table([Stop(["a", "b"])])
        self.assertEqual(table_after(led, Swap(Stop(["a", "b"]), Lead(["a"], []))), Table([Lead(["a"], [])]))

    def test_rows_that_are_not_there(self):
        table = Table([ROW, Stop(["a"])])
        others = [Thing(["a"], 2), Thing(["b"], 1), Rest(["a"], 1), Stop([]), Lead(["a"], []), Other(["a"], [])]
        for row in others:
            with self.assertRaises(NoRow) as caught:
                table_after(table, Drop(row))
            self.assertEqual(vars(caught.exception), {})
            with self.assertRaises(NoRow):
                table_after(table, Swap(row, ROW))
            with self.assertRaises(NoRow):
                table_after(Table([]), Drop(row))

    def test_tables_that_cannot_be(self):
        table = Table([ROW, Lead(["x"], []), Stop(["y", "z"])])
        cases = [(Thing(["a"], 2), "twice", ("a",)), (Other(["a"], []), "both", ("a",)),
                 (Rest(["x"], 1), "both", ("x",)), (Lead(["x"], ["x"]), "twice", ("x",)),
                 (Stop(["x", "y"]), "under", ("x", "y")), (Lead(["y"], []), "under", ("y", "z")),
                 ("stop a", "row", None), (None, "row", None), (Put(ROW), "row", None)]
        for row, what, name in cases:
            for change in (Put(row), Swap(Stop(["y", "z"]) if what != "under" else ROW, row)):
                with self.assertRaises(BadTable) as caught:
                    table_after(table, change)
                self.assertEqual((caught.exception.what, caught.exception.name), (what, name))
        self.assertEqual(table.rows, (ROW, Lead(["x"], []), Stop(["y", "z"])))

    def test_no_row_comes_ahead_of_bad_table(self):
        table = Table([ROW])
        for other in (Thing(["a"], 2), Other(["a"], []), None, "stop a"):
            with self.assertRaises(NoRow):
                table_after(table, Swap(Stop(["b"]), other))
        for row in ("stop a", None, 1, ("a",), Put(ROW)):
            with self.assertRaises(NoRow):
                table_after(table, Drop(row))

    def test_returned_tables_with_many_rows(self):
        table = large_flat_table()
        self.assertEqual(len(table.rows), 819)
        row = Thing(["z"] * 12, 10 ** 2000)
        put = table_after(table, Put(row))
        self.assertEqual(len(put.rows), 820)
        self.assertEqual(answer_of(put, ["z"] * 12), ("thing", 10 ** 2000))
        self.assertEqual(table_after(put, Drop(row)), table)
        first = table.rows[0]
        dropped = table_after(table, Drop(first))
        self.assertEqual(dropped.rows, table.rows[1:])
        self.assertEqual(table_after(dropped, Put(first)), table)
        self.assertEqual(table_after(put, Swap(row, Stop(["z"]))), table_after(table, Put(Stop(["z"]))))
        with self.assertRaises(NoRow):
            table_after(table, Drop(row))
        with self.assertRaises(BadTable):
            table_after(table, Put(Lead(["a"], ["b"])))

    def test_very_many_changes(self):
        table = Table([])
        for at in range(400):
            table = table_after(table, Put(Rest(["k"] * at, at)))
        self.assertEqual([row.thing for row in table.rows], list(range(400)))
        for at in range(0, 400, 2):
            table = table_after(table, Drop(Rest(["k"] * at, at)))
        self.assertEqual([row.thing for row in table.rows], list(range(1, 400, 2)))


class ThirdFactTest(unittest.TestCase):
    def assert_safe(self, one, other):
        for first, second in ((one, other), (other, one)):
            self.assertIsNone(torn_name(first, second))
            # Also by the search itself, whatever could be told ahead of it.
            self.assertIsNone(Search(Exchange(first, second), labels_asked([first, second])).find_name())

    def test_one_row_put_or_dropped(self):
        checked = 0
        for rows in (2, 4, 6, 8):
            for table in some_tables(rows + 200, 60, rows):
                for row in table.rows:
                    self.assert_safe(table, table_after(table, Drop(row)))
                    checked += 1
        self.assertGreater(checked, 500)

    def test_tables_that_are_alike(self):
        for table in some_tables(210, 80, 6):
            self.assert_safe(table, least_table(table))

    def test_swaps_of_rows_of_one_name(self):
        source = random.Random(6)
        kinds = {Thing: 0, Rest: 0, Other: 0}
        targets = names_of("ab", 3)
        for table in some_tables(211, 150, 6):
            for row in table.rows:
                if isinstance(row, (Thing, Rest)):
                    other = row.__class__(row.name, row.thing + 1)
                elif isinstance(row, Other):
                    other = Other(row.name, source.choice(targets))
                else:
                    continue
                kinds[row.__class__] += 1
                self.assert_safe(table, table_after(table, Swap(row, other)))
        self.assertGreater(min(kinds.values()), 40)

    def test_swaps_of_leads_need_not_be_safe(self):
        row, other = Lead(["a"], ["b"]), Lead(["a"], ["d"])
        table = Table([row, Thing(["b", "c"], 1), Thing(["d", "c"], 2)])
        self.assert_safe(table, table_after(table, Swap(row, other)))
        table = Table([row, Lead(["b"], ["a"]), Thing(["d", "c"], 1)])
        self.assert_safe(table, table_after(table, Swap(row, other)))
        # The old Lead leads to its own name once more, with another label behind it; from there the new one goes on.
        table = Table([row, Lead(["b", "c"], ["a", "q"]), Thing(["b", "q", "k"], 1), Thing(["d", "c", "k"], 2),
                       Thing(["d", "q", "k"], 3)])
        after = table_after(table, Swap(row, other))
        self.assertEqual(torn_name(table, after), (("a", "c", "k"), ("thing", 3)))
        self.assertEqual(torn_name(after, table), None)

    def test_swaps_of_leads_by_moves_that_are_made_one_by_one(self):
        source = random.Random(9)
        targets = names_of("ab", 3)
        found = {True: 0, False: 0}
        for table in some_tables(212, 120, 5):
            for row in table.rows:
                if isinstance(row, Lead):
                    after = table_after(table, Swap(row, Lead(row.name, source.choice(targets))))
                    least = self.least_torn(table, after)
                    torn = torn_name(table, after)
                    found[torn is None] += 1
                    self.assertEqual(torn if torn is None or len(torn[0]) <= 3 else None, least)
        self.assertGreater(min(found.values()), 5)

    def least_torn(self, one, other):
        known = {}
        for name in names_of(labels_of(one, other), 3):
            answers = plain_torn(one.rows, other.rows, name, known)
            for answer in answers:
                if answer not in (plain_walk(one.rows, name)[0], known[name]):
                    return (name, answer)
        return None


class PlainOrders:
    """All orders of changes, gone through one by one; what is found out of tables is kept by their rows."""

    def __init__(self, table, changes):
        self.table = table
        self.changes = changes
        self.known = {}
        rows = [row for change in changes for row in vars(change).values()]
        self.names = names_of(labels_of(table, *[Table([row]) for row in rows]), 5)

    def kept(self, what, tables, tell):
        key = (what,) + tuple(str([(row.__class__, vars(row)) for row in table.rows]) for table in tables)
        if key not in self.known:
            self.known[key] = tell(*tables)
        return self.known[key]

    def after(self, order):
        """Return the tables that come one by one, or None if a change raises an error or is not safe."""
        tables = [self.table]
        for number in order:
            try:
                tables.append(table_after(tables[-1], self.changes[number]))
            except (NoRow, BadTable):
                return None
            if self.kept("torn", tables[-2:], torn_name) is not None:
                return None
        return tables

    def answers(self, table):
        return [plain_walk(table.rows, name)[0] for name in self.names]

    def keeps(self, tables):
        """Return whether no name with the same answer at both ends has another one between them."""
        first, *between, last = [self.kept("answers", [table], self.answers) for table in tables]
        return not any(one == other != told for told_all in between for one, told, other in zip(first, told_all, last))

    def first_order(self):
        """Return the first order; also whether an earlier one is safe, but does not keep the answers."""
        spoilt = False
        for order in itertools.permutations(range(len(self.changes))):
            tables = self.after(order)
            if tables is not None and self.keeps(tables):
                return (list(order), spoilt)
            spoilt = spoilt or tables is not None
        return (None, spoilt)


class SafeOrderTest(unittest.TestCase):
    def test_no_changes(self):
        self.assertEqual(safe_order(Table([]), []), [])
        self.assertEqual(safe_order(Table([ROW]), ()), [])

    def test_one_change(self):
        table = Table([Lead(["a"], ["b"]), Thing(["b", "c"], 1)])
        self.assertEqual(safe_order(table, [Put(ROW)]), [0])
        self.assertEqual(safe_order(table, (Put(ROW),)), [0])
        self.assertEqual(safe_order(table, [Drop(Lead(["a"], ["b"]))]), [0])
        self.assertIsNone(safe_order(table, [Drop(ROW)]))
        self.assertIsNone(safe_order(table, [Put(Lead(["a"], []))]))
        self.assertIsNone(safe_order(table, [Put("row")]))
        self.assertEqual(safe_order(table, [Swap(Lead(["a"], ["b"]), Lead(["a"], ["d"]))]), [0])

    def test_one_change_that_is_not_safe(self):
        rows = [Lead(["b", "c"], ["a", "q"]), Thing(["b", "q", "k"], 1), Thing(["d", "c", "k"], 2),
                Thing(["d", "q", "k"], 3)]
        row, other = Lead(["a"], ["b"]), Lead(["a"], ["d"])
        self.assertIsNone(safe_order(Table(rows + [row]), [Swap(row, other)]))
        self.assertEqual(safe_order(Table(rows + [other]), [Swap(other, row)]), [0])
        # One after the other, the rows can be dropped and put.
        self.assertEqual(safe_order(Table(rows + [row]), [Put(other), Drop(row)]), [1, 0])

    def test_the_first_order_as_lists_are_compared(self):
        changes = [Put(Thing([letter], 1)) for letter in "abc"]
        self.assertEqual(safe_order(Table([]), changes), [0, 1, 2])
        self.assertEqual(safe_order(Table([]), changes[::-1]), [0, 1, 2])
        # The last one has to come ahead of the first one.
        changes = [Put(Lead(["a"], [])), Put(ROW), Drop(Stop(["a", "b"]))]
        self.assertEqual(safe_order(Table([Stop(["a", "b"])]), changes), [1, 2, 0])

    def test_orders_in_which_a_change_raises_an_error(self):
        self.assertEqual(safe_order(Table([]), [Drop(ROW), Put(OTHER)]), None)
        self.assertEqual(safe_order(Table([ROW]), [Put(Thing(["a"], 2)), Drop(ROW)]), [1, 0])
        changes = [Swap(Thing(["a"], 3), Thing(["a"], 4)), Swap(Thing(["a"], 2), Thing(["a"], 3)),
                   Swap(ROW, Thing(["a"], 2))]
        self.assertEqual(safe_order(Table([ROW]), changes), [2, 1, 0])
        self.assertIsNone(safe_order(Table([ROW]), changes[:2]))
        self.assertIsNone(safe_order(Table([ROW]), [Put(Thing(["a"], 2)), Put(OTHER)]))

    def test_names_that_have_another_answer_between(self):
        # Each change is safe, but between them the name has nothing.
        self.assertIsNone(safe_order(Table([ROW]), [Drop(ROW), Put(Other(["a"], ["b"])), Put(Thing(["b"], 1))]))
        table = Table([Lead(["a"], ["b"]), Thing(["b", "c"], 1)])
        changes = [Drop(Lead(["a"], ["b"])), Put(Lead(["a"], ["d"])), Put(Thing(["d", "c"], 1))]
        self.assertIsNone(safe_order(table, changes))
        self.assertIsNone(safe_order(Table([]), [Put(ROW), Drop(ROW)]))
        # If the row is put first, where it is, its name has another answer at the end.
        self.assertEqual(safe_order(Table([ROW]), [Drop(ROW), Put(ROW)]), [1, 0])

    def test_names_that_have_another_answer_at_the_end(self):
        self.assertEqual(safe_order(Table([ROW]), [Swap(ROW, Thing(["a"], 2)), Swap(Thing(["a"], 2), Thing(["a"], 3))]),
                         [0, 1])
        self.assertIsNone(safe_order(Table([ROW]), [Swap(ROW, Thing(["a"], 2)), Swap(Thing(["a"], 2), ROW)]))

    def test_names_below_have_another_answer_between(self):
        table = Table([Rest([], 1)])
        # With Stop first, names below a have nothing between 1 and 1; with Rest first, they keep 1 all the time.
        self.assertEqual(safe_order(table, [Put(Stop(["a"])), Put(Rest(["a"], 1))]), [1, 0])
        self.assertEqual(safe_order(table, [Put(Stop(["a"])), Put(Rest(["a"], 2))]), [0, 1])

    def test_six_and_seven_changes(self):
        table = Table([Lead(["a"], ["b"]), Thing(["b", "c"], 1)])
        changes = [Drop(Thing(["b", "c"], 1)), Swap(Lead(["a"], ["b"]), Lead(["a"], ["d"])), Put(Thing(["d", "c"], 1))]
        more = [Put(Thing([letter], 1)) for letter in "xyz"]
        self.assertEqual(safe_order(table, changes + more), [2, 1, 0, 3, 4, 5])
        self.assertEqual(safe_order(table, more + changes), [0, 1, 2, 5, 4, 3])
        self.assertIsNone(safe_order(table, changes + [Drop(Thing(["q"], 1))] + more[:2]))
        for many in (7, 8, 100):
            with self.assertRaises(Large) as caught:
                safe_order(table, [Drop(Thing(["q"], 1))] * many)
            self.assertEqual(caught.exception.count, many)
            with self.assertRaises(Large):
                safe_order(table, tuple(more[:1] * many))

    def test_all_orders_gone_through_one_by_one(self):
        source = random.Random(11)
        found = {"first": 0, "later": 0, "none": 0, "spoilt": 0}
        for table in some_tables(220, 160, 4):
            changes = self.some_changes(source, table, source.choice([2, 3, 3, 4]))
            expected, spoilt = PlainOrders(table, changes).first_order()
            order = safe_order(table, changes)
            self.assertEqual(order, expected)
            self.assertEqual(safe_order(table, tuple(changes)), expected)
            found["spoilt"] += spoilt
            found["none" if order is None else "first" if order == sorted(order) else "later"] += 1
        self.assertGreater(min(found.values()), 10, found)

    def test_six_changes_gone_through_one_by_one(self):
        source = random.Random(21)
        found = {True: 0, False: 0}
        for table in some_tables(221, 12, 5):
            changes = self.some_changes(source, table, 6)
            order = safe_order(table, changes)
            self.assertEqual(order, PlainOrders(table, changes).first_order()[0])
            found[order is None] += 1
        self.assertGreater(min(found.values()), 0)

    def some_changes(self, source, table, many):
        """Changes of which some need others ahead of them."""
        changes = []
        rows = list(table.rows)
        for _ in range(many):
            kind = source.choice([Put, Drop, Swap, Swap])
            if kind == Put or not rows:
                row = some_row(source)
                changes.append(Put(row))
                rows.append(row)
            elif kind == Drop:
                changes.append(Drop(rows.pop(source.randrange(len(rows)))))
            else:
                row, other = rows.pop(source.randrange(len(rows))), some_row(source)
                if source.random() < 0.7 and isinstance(row, Lead):
                    other = Lead(row.name, some_row(source).name)
                changes.append(Swap(row, other))
                rows.append(other)
        source.shuffle(changes)
        return changes


if __name__ == "__main__":
    unittest.main()
