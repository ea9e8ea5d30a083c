"""All names on the way from a name by one table, as another table answers them."""

from lednames.joining import joined_machine
from lednames.machines import behind, machine_of
from lednames.places import Reader
from lednames.tables import Lead
from lednames.trees import OTHER, ROOT

# The labels that lead to the two tables in their joined machine.
ONE = 0
TWO = 1


class Exchange:
    """A table by which somebody is led on, and the machine of it and of the table for which it is exchanged.

    Names on the way are kept as the states to which the second table is led by them.
    """

    def __init__(self, table, other):
        self.reader = Reader(table)
        self.tree = table.tree
        self.machine = joined_machine([machine_of(table), machine_of(other)])
        self.met = states_met(self.reader, self.machine)
        # The answers by the second table of all names behind an Other, by the numbers of the rows.
        self.behind_others = {}

    def enter(self, node):
        """Return the node where one stands at a node with labels left, and the states met on the way to it.

        It is None if no more labels are read by the first table.
        """
        if node is None:
            return (None, [])
        kind, place = self.reader.place_at(node)
        return (place if kind == "node" else None, self.met.get(node, []))

    def node_behind(self, place, label):
        """Return the node that has one label more than the one where one stands, or None."""
        if place is None:
            return None
        return self.tree.node_below(place, label)

    def answers_from(self, name):
        """Return the answers by the second table of all names on the way from a name, as the keys of a dict."""
        answers = {}
        used = {}
        while True:
            node = self.meet_names(name, answers)
            number = self.other_at(node)
            if number is None or number in used:
                break
            used[number] = True
            name = self.reader.table.rows[number].target
        return answers

    def other_at(self, node):
        """Return the number of the row that leads on the name that ends at a node; None for none, or for no node."""
        if node is None:
            return None
        return self.tree.row_at(node, OTHER)

    def meet_names(self, name, answers):
        """Add the answers of all names on the way from a name by Leads; return the node where the last one ends.

        It is None if that one leaves the table, or if there is no last one.
        """
        if not name:
            answers[behind(self.machine, 0, TWO)[0]] = True
            return ROOT
        place, states = self.start()
        for label in name[:-1]:
            place, met = self.enter(self.node_behind(place, label))
            states = {behind(self.machine, state, label)[1]: True for state in states}
            states.update({state: True for state in met})
        for state in states:
            answers[behind(self.machine, state, name[-1])[0]] = True
        return self.node_behind(place, name[-1])

    def start(self):
        """Return where one stands ahead of all labels, and the states met there, as the keys of a dict."""
        place, met = self.enter(ROOT)
        states = {behind(self.machine, 0, TWO)[1]: True}
        states.update({state: True for state in met})
        return (place, states)

    def answers_at(self, node):
        """Return the answers by the second table of all names to which a node's name is led on, as a list."""
        number = self.other_at(node)
        if number is None:
            return []
        if number not in self.behind_others:
            self.behind_others[number] = list(self.answers_from(self.reader.table.rows[number].target))
        return self.behind_others[number]


def states_met(reader, machine):
    """Return for each node with a Lead the states to which the second table is led by the names met by its moves.

    These are the moves from the node's name on, with labels behind it that are not read; its own state is left out.
    """
    targets = {reader.table.tree.node_of(row.name): row.target for row in reader.table.rows if isinstance(row, Lead)}
    entries = entries_of(reader, targets)
    start = behind(machine, 0, TWO)[1]
    met = {node: [] for node in targets}
    seen = {}
    waiting = [(node, 0, start) for node in targets]
    while waiting:
        item = waiting.pop()
        if item in seen:
            continue
        seen[item] = True
        node, done, state = item
        if done < len(targets[node]):
            waiting.append((node, done + 1, behind(machine, state, targets[node][done])[1]))
        else:
            # What is met by this Lead is met as well wherever its node is come to when another target is read.
            met[node].append(state)
            waiting.extend([(before, at, state) for before, at in entries[node]])
    return met


def entries_of(reader, targets):
    """Return for each node with a Lead the pairs of a node and a number.

    When so many labels of the target of that node's Lead are read, the Lead of the first node is followed.
    """
    entries = {node: [] for node in targets}
    for before, labels in targets.items():
        for node, done in leads_entered(reader, labels):
            entries[node].append((before, done))
    return entries


def leads_entered(reader, labels):
    """Return the nodes whose Leads are followed when labels are read with more behind, and how many are read then."""
    entered = []
    done = 0
    node = ROOT
    while node is not None:
        if reader.lead_at(node) is not None:
            entered.append((node, done))
        kind, place = reader.place_at(node)
        if kind != "node" or done == len(labels):
            break
        node = reader.table.tree.node_below(place, labels[done])
        done += 1
    return entered
