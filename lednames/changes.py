"""Changes of tables, and the orders in which they can be made one by one."""

from lednames.between import keeps_answers
from lednames.errors import BadTable, Large, NoRow
from lednames.ledtexts import table_text
from lednames.tables import Table
from lednames.tearing import torn_name

MOST_CHANGES = 6


class Put:
    """A row is put into a table."""

    def __init__(self, row):
        self.row = row

    def __eq__(self, other):
        return isinstance(other, Put) and self.row == other.row


class Drop:
    """A row is taken out of a table."""

    def __init__(self, row):
        self.row = row

    def __eq__(self, other):
        return isinstance(other, Drop) and self.row == other.row


class Swap:
    """A row is taken out of a table, and another one is put in at once."""

    def __init__(self, row, other):
        self.row = row
        self.other = other

    def __eq__(self, other):
        return isinstance(other, Swap) and self.row == other.row and self.other == other.other


def table_after(table, change):
    """Return the table after a change."""
    if isinstance(change, Put):
        return Table([*table.rows, change.row])
    if change.row not in table.rows:
        raise NoRow()
    rows = [row for row in table.rows if row != change.row]
    if isinstance(change, Swap):
        rows.append(change.other)
    return Table(rows)


def safe_order(table, changes):
    """Return the numbers of the changes in the first order in which they can be made safely; None if there is none."""
    if len(changes) > MOST_CHANGES:
        raise Large(len(changes))
    return Orders(changes).first_from([], [table])


class Orders:
    """Looks for the first order of changes; what is found out of tables is kept by their texts."""

    def __init__(self, changes):
        self.changes = changes
        # By a table's text and the number of a change: the table after it, or None if it is not a safe one.
        self.after = {}
        # By the texts of the first table, of one between and of the last one: whether the answers are kept.
        self.kept = {}

    def first_from(self, order, tables):
        """Return the first order that begins so and has led to these tables, or None."""
        if len(order) == len(self.changes):
            return order if self.keeps_all(tables) else None
        for number in range(len(self.changes)):
            after = None if number in order else self.safe_after(tables[-1], number)
            if after is not None:
                found = self.first_from(order + [number], tables + [after])
                if found is not None:
                    return found
        return None

    def safe_after(self, table, number):
        """Return the table after a change, or None if the change is not safe or raises an error."""
        key = (table_text(table), number)
        if key not in self.after:
            self.after[key] = safe_change(table, self.changes[number])
        return self.after[key]

    def keeps_all(self, tables):
        return all([self.keeps(tables[0], between, tables[-1]) for between in tables[1:-1]])

    def keeps(self, first, between, last):
        key = (table_text(first), table_text(between), table_text(last))
        if key not in self.kept:
            self.kept[key] = keeps_answers(first, between, last)
        return self.kept[key]


def safe_change(table, change):
    """Return the table after a change, or None if the change is not safe or raises an error."""
    try:
        after = table_after(table, change)
    except (NoRow, BadTable):
        return None
    if torn_name(table, after) is not None:
        return None
    return after
