"""The least number of rows of tables that are alike, and tables that have so few."""

from lednames.answers import checked_answer
from lednames.classes import classes_of, is_plain, least_machine
from lednames.errors import Large
from lednames.flat import count_flat, flat_rows
from lednames.machines import machine_for, machine_of
from lednames.normal import normal_rows, parts_of, plain_graph
from lednames.spanning import count_trees
from lednames.tables import Table

MOST_ROWS = 1000


def least_count(table):
    """Return the least number of rows of the tables that are alike."""
    things, lefts, stops, edges, full = least_parts(table)
    return things + lefts + stops + edges - max(full - 1, 0)


def least_parts(table):
    """Return the numbers (T, D, N, E, K) of the second fact."""
    return parts_of(classes_of(table))


def least_table(table):
    """Return the normal table whose homes are the least names that they can be."""
    return Table(normal_rows(classes_of(table)))


def count_normal(table):
    """Return the number of all normal tables."""
    classes = classes_of(table)
    if not is_plain(classes, 0):
        return 1
    return count_trees(plain_graph(classes))


def is_least(table):
    """Return whether a table has the least number of rows."""
    return len(table.rows) == least_count(table)


def only_table(table, answer):
    """Return the least table in which just the names with this answer have the thing 1, and all others nothing."""
    answer = checked_answer(answer)
    return Table(normal_rows(least_machine(machine_for(machine_of(table), answer))))


def flat_table(table):
    """Return the alike table without Lead and Other that has the fewest rows; None if there is none."""
    classes = classes_of(table)
    count = count_flat(classes)
    if count is None:
        return None
    if count > MOST_ROWS:
        raise Large(count)
    return Table(flat_rows(classes))
