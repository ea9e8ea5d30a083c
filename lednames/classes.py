"""The classes of a table: the states of its machine, those that are alike made one, with their marked labels alone."""

from lednames.answers import NOTHING
from lednames.blocks import Blocks
from lednames.machines import Machine, machine_of


def classes_of(table):
    """Return the machine of the classes of a table."""
    return least_machine(machine_of(table))


def is_plain(classes, state):
    return len(classes.edges[state]) > 0


def is_empty(classes, state):
    return not is_plain(classes, state) and classes.left[state] == NOTHING


def least_homes(classes):
    """Return the least name that leads to each class."""
    homes = {0: ()}
    for state, edges in enumerate(classes.edges):
        # A state comes behind the first one that leads to it, and so do their least names.
        for label, (own, after) in edges.items():
            if after not in homes:
                homes[after] = homes[state] + (label,)
    return homes


def least_machine(machine):
    """Return the machine with the fewest states that gives all names the same answers.

    It has marked labels alone, in order, and its states are in the order of the least names that lead to them.
    """
    into = edges_into(machine)
    varied = varied_states(machine, into)
    marked = [marked_labels(machine, varied, state) for state in range(len(machine.left))]
    blocks = Blocks([state_key(machine, varied, state, marked[state]) for state in range(len(marked))])
    blocks.refine([[(before, label) for before, label in edges if label in marked[before]] for edges in into])
    return machine_of_blocks(machine, marked, blocks.block)


def edges_into(machine):
    """Return for each state the pairs of a state and a label that lead to it."""
    into = [[] for state in machine.left]
    for state, edges in enumerate(machine.edges):
        for label, (own, after) in edges.items():
            into[after].append((state, label))
    return into


def varied_states(machine, into):
    """Return the states below which not all names have the same answer, as the keys of a dict."""
    varied = {}
    found = [state for state in range(len(machine.left)) if is_varied_here(machine, state)]
    while found:
        state = found.pop()
        if state not in varied:
            varied[state] = True
            found.extend([before for before, label in into[state]])
    return varied


def is_varied_here(machine, state):
    left = machine.left[state]
    return any([own != left or machine.left[after] != left for own, after in machine.edges[state].values()])


def marked_labels(machine, varied, state):
    """Return the marked labels of a state in order, as a dict."""
    left = machine.left[state]
    marked = {}
    for label in sorted(machine.edges[state]):
        own, after = machine.edges[state][label]
        if own != left or machine.left[after] != left or after in varied:
            marked[label] = (own, after)
    return marked


def state_key(machine, varied, state, marked):
    """Return a key that states that are alike have in common."""
    edges = [(label, own, machine.left[after], after in varied) for label, (own, after) in marked.items()]
    return (machine.left[state], tuple(edges))


def machine_of_blocks(machine, marked, block):
    """Return the machine whose states are the blocks, as far as they are come to."""
    states = [0]
    numbers = {block[0]: 0}
    edges = []
    while len(edges) < len(states):
        state = states[len(edges)]
        edges.append({})
        for label, (own, after) in marked[state].items():
            if block[after] not in numbers:
                numbers[block[after]] = len(states)
                states.append(after)
            edges[-1][label] = (own, numbers[block[after]])
    return Machine(machine.own, [machine.left[state] for state in states], edges)
