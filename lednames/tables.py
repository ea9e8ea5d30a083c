"""Rows, the tables that are made of them, and the nodes of tables."""

from lednames.errors import BadRow, BadTable
from lednames.names import is_name, is_number, name_order
from lednames.trees import LEAD, OTHER, REST, STOP, THING, Tree


class Thing:
    """The name has this thing, a number."""

    def __init__(self, name, thing):
        self.name = name_for("name", name)
        self.thing = number_for("thing", thing)

    def __eq__(self, other):
        return isinstance(other, Thing) and self.name == other.name and self.thing == other.thing


class Other:
    """This name alone is to be looked for as the target."""

    def __init__(self, name, target):
        self.name = name_for("name", name)
        self.target = name_for("target", target)

    def __eq__(self, other):
        return isinstance(other, Other) and self.name == other.name and self.target == other.target


class Lead:
    """All names below this name are to be looked for below the target."""

    def __init__(self, name, target):
        self.name = name_for("name", name)
        self.target = name_for("target", target)

    def __eq__(self, other):
        return isinstance(other, Lead) and self.name == other.name and self.target == other.target


class Rest:
    """The names below this one whose next label the table does not know have this thing."""

    def __init__(self, name, thing):
        self.name = name_for("name", name)
        self.thing = number_for("thing", thing)

    def __eq__(self, other):
        return isinstance(other, Rest) and self.name == other.name and self.thing == other.thing


class Stop:
    """The table knows this name, though it has nothing."""

    def __init__(self, name):
        self.name = name_for("name", name)

    def __eq__(self, other):
        return isinstance(other, Stop) and self.name == other.name


class Table:
    """Rows in the order of their names, each only once."""

    def __init__(self, rows):
        kept = rows_in_order(rows)
        tree = tree_of(kept)
        check_names(kept, tree)
        self.rows = tuple(kept)
        # Made here and not when it is first asked for: calls never change their arguments.
        self.tree = tree

    def __eq__(self, other):
        return isinstance(other, Table) and self.rows == other.rows


def nodes_of(table):
    """Return the root and all beginnings of names of the table's rows, in order."""
    return sorted(table.tree.all_names(), key=name_order)


def name_for(what, value):
    if not is_name(value):
        raise BadRow(what)
    return tuple(value)


def number_for(what, value):
    if not is_number(value):
        raise BadRow(what)
    return value


def kind_of(row):
    """Return the number of a row's kind, or None for what is no row."""
    if isinstance(row, Thing):
        return THING
    if isinstance(row, Other):
        return OTHER
    if isinstance(row, Lead):
        return LEAD
    if isinstance(row, Rest):
        return REST
    if isinstance(row, Stop):
        return STOP
    return None


def row_order(row):
    return (name_order(row.name), kind_of(row))


def rows_in_order(rows):
    if not isinstance(rows, (list, tuple)) or not all([kind_of(row) is not None for row in rows]):
        raise BadTable("row", None)
    kept = []
    for row in sorted(rows, key=row_order):
        if not kept or kept[-1] != row:
            kept.append(row)
    return kept


def tree_of(rows):
    tree = Tree()
    for number, row in enumerate(rows):
        tree.hold_row(tree.add_name(row.name), kind_of(row), number)
    return tree


def check_names(rows, tree):
    """Raise BadTable for the first name in order that may not have its rows."""
    kinds = {}
    for row in rows:
        kinds.setdefault(tree.add_name(row.name), []).append(kind_of(row))
    # The rows are in order, so the nodes have come in the order of their names.
    for node, found in kinds.items():
        what = fault_at(tree, node, found)
        if what is not None:
            raise BadTable(what, tree.name_of(node))


def fault_at(tree, node, kinds):
    """Return why a node may not have rows of these kinds, or None."""
    if len(set(kinds)) < len(kinds):
        return "twice"
    if (THING in kinds and OTHER in kinds) or (LEAD in kinds and REST in kinds):
        return "both"
    if tree.is_led(node):
        return "under"
    return None
