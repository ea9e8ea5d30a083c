"""Answers and numbers of moves of all names, told by one walk along their labels."""

from lednames.answers import GROWS, ROUND, answer_by
from lednames.names import checked_name
from lednames.places import Reader
from lednames.tables import kind_of
from lednames.trees import LEAD, OTHER, REST, ROOT, THING


def answer_of(table, name):
    """Return the answer of a name."""
    return find_answer(table, checked_name(name))[0]


def count_moves(table, name):
    """Return the number of moves until there is an answer; None if the name is led on without an end."""
    uses = find_answer(table, checked_name(name))[1]
    if uses is None:
        return None
    return sum([uses[number] for number in uses if kind_of(table.rows[number]) in (OTHER, LEAD)])


def row_uses(table, name):
    """Return pairs of the rows that are used and how often; None if the name is led on without an end."""
    uses = find_answer(table, checked_name(name))[1]
    if uses is None:
        return None
    return [(table.rows[number], uses[number]) for number in sorted(uses)]


def place_of(table, name):
    """Return where one stands when the labels of a name have been read and more are left."""
    kind, node = Reader(table).read_labels(checked_name(name)).place
    if kind == "node":
        return ("node", table.tree.name_of(node))
    return ("all", answer_at(table, kind, node))


def find_answer(table, name):
    """Return the answer of a name and how often each row is used, by the rows' numbers.

    The second one is None for names that are led on without an end.
    """
    reader = Reader(table)
    uses = {}
    while True:
        (kind, node), more = find_end(reader, name)
        add_uses(uses, more)
        number = other_at(table, kind, node)
        if number is None:
            return told_at(table, kind, node, uses)
        # The target of a row that has been used before comes again.
        if number in uses:
            return (ROUND, None)
        uses[number] = 1
        name = table.rows[number].target


def find_end(reader, name):
    """Return where a name ends, ahead of its Other, and how often each row is used on the way."""
    if not name:
        return (("end", ROOT), {})
    run = reader.read_labels(name[:-1])
    return (last_step(reader.table.tree, run.place, name[-1]), reader.uses_of(run))


def add_uses(uses, more):
    for number, many in more.items():
        uses[number] = uses.get(number, 0) + many


def last_step(tree, place, label):
    """Return ("end", node) for where a name ends that has only this label left at a place, or the place it ends at."""
    kind, node = place
    if kind != "node":
        return place
    deeper = tree.node_below(node, label)
    if deeper is None:
        return ("left", node)
    return ("end", deeper)


def other_at(table, kind, node):
    """Return the number of the row that leads on a name that ends so, or None."""
    if kind == "end":
        return table.tree.row_at(node, OTHER)
    return None


def told_at(table, kind, node, uses):
    """Return the answer of a name that ends so, and the uses with that of the row that tells it."""
    if kind in ("round", "grows"):
        return (answer_at(table, kind, node), None)
    number = teller_at(table, kind, node)
    if number is not None:
        add_uses(uses, {number: 1})
    return (answer_at(table, kind, node), uses)


def teller_at(table, kind, node):
    """Return the number of the row that tells the answer, or None."""
    if kind == "end":
        return table.tree.row_at(node, THING)
    if kind == "left":
        return table.tree.row_at(node, REST)
    return None


def answer_at(table, kind, node):
    if kind == "round":
        return ROUND
    if kind == "grows":
        return GROWS
    return answer_by(table, teller_at(table, kind, node))
