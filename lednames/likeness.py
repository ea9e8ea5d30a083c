"""Whether tables give all names the same answers, and which rows of a table change none."""

from lednames.answers import NOTHING
from lednames.classes import classes_of, is_empty
from lednames.comparing import first_unlike
from lednames.labels import labels_asked
from lednames.machines import behind_name, machine_of
from lednames.tables import Lead, Other, Stop
from lednames.trees import REST, ROOT


def unlike_name(table, other):
    """Return the least name that has unlike answers in two tables; None if there is none."""
    return first_unlike(machine_of(table), machine_of(other), labels_asked([table, other]))


def idle_rows(table):
    """Return the rows without each of which, by itself, the table is alike to the whole one."""
    classes = classes_of(table)
    return [row for row in table.rows if leads_to_nothing(classes, row) and not opens_rest(table, row)]


def leads_to_nothing(classes, row):
    """Return whether all names that use a row, or end at the name of a Stop, have nothing."""
    answer, state = behind_name(classes, row.name)
    if isinstance(row, Other):
        return answer == NOTHING
    if isinstance(row, Lead):
        return state == NOTHING or (not isinstance(state, tuple) and is_empty(classes, state))
    return isinstance(row, Stop)


def opens_rest(table, row):
    """Return whether a row's name would leave the table at a Rest if the row were not there."""
    tree = table.tree
    node = tree.node_of(row.name)
    rows = 1
    nodes = 0
    while node != ROOT and len(tree.held[node]) == rows and len(tree.below[node]) == nodes:
        node = tree.above[node]
        rows, nodes = (0, 1)
    # Nothing leaves at the node of the row itself: it is there without the row, too.
    return nodes == 1 and tree.row_at(node, REST) is not None
