"""Several machines as one, in which states that are alike are the same state."""

from lednames.classes import is_plain, least_machine
from lednames.machines import Machine

# What no name has: so each of the labels that lead to the joined machines is a marked one.
UNTOLD = ("untold",)


def joined_machine(machines):
    """Return one machine; the number of each joined machine is the label that leads from its first state to its root.

    In it a state from which on all names have one answer is this answer itself.
    """
    left = [UNTOLD]
    edges = [{}]
    for number, machine in enumerate(machines):
        first = len(left)
        edges[0][number] = (machine.own, first)
        left.extend(machine.left)
        edges.extend([{label: (own, first + after) for label, (own, after) in marked.items()}
                      for marked in machine.edges])
    joined = least_machine(Machine(UNTOLD, left, edges))
    return Machine(joined.own, joined.left, [settled_edges(joined, marked) for marked in joined.edges])


def settled_edges(machine, marked):
    """Return marked labels that lead to answers instead of the states from which on all names have one answer."""
    settled = {}
    for label, (own, after) in marked.items():
        settled[label] = (own, after if is_plain(machine, after) else machine.left[after])
    return settled
