"""Single moves, and walks that are gone move by move."""

from lednames.answers import answer_by
from lednames.names import checked_name
from lednames.trees import LEAD, OTHER, REST, ROOT, THING


def next_of(table, name):
    """Return ("to", name) with the name that is looked for next, or the answer."""
    return move_from(table, checked_name(name))


def walk_of(table, name, most):
    """Return the name, the next one, and so on, to the one that has an answer; at most `most` names."""
    walk = []
    move = ("to", checked_name(name))
    while move[0] == "to" and len(walk) < most:
        walk.append(move[1])
        move = move_from(table, move[1])
    return walk


def move_from(table, name):
    tree = table.tree
    node = ROOT
    for at, label in enumerate(name):
        number = tree.row_at(node, LEAD)
        if number is not None:
            return ("to", table.rows[number].target + name[at:])
        deeper = tree.node_below(node, label)
        if deeper is None:
            return answer_by(table, tree.row_at(node, REST))
        node = deeper
    number = tree.row_at(node, OTHER)
    if number is not None:
        return ("to", table.rows[number].target)
    return answer_by(table, tree.row_at(node, THING))
