"""The answers to which names can come when a table is exchanged for another one on the way."""

from lednames.answers import answer_order
from lednames.comparing import name_to
from lednames.exchange import ONE, TWO, Exchange
from lednames.labels import labels_asked, labels_to_ask
from lednames.machines import behind, labels_at
from lednames.names import checked_name
from lednames.reading import answer_of
from lednames.trees import ROOT


def torn_answers(table, other, name):
    """Return all answers to which a name can come if some moves go by a table and all others by the other one."""
    name = checked_name(name)
    answers = Exchange(table, other).answers_from(name)
    answers[answer_of(table, name)] = True
    return sorted(answers, key=answer_order)


def torn_name(table, other):
    """Return the least name that can come to an answer that it has by neither table, and that answer; or None."""
    name = Search(Exchange(table, other), labels_asked([table, other])).find_name()
    if name is None:
        return None
    own = (answer_of(table, name), answer_of(other, name))
    return (name, [answer for answer in torn_answers(table, other, name) if answer not in own][0])


class Group:
    """What is to be known of a name with more behind it that is asked while the table is exchanged."""

    def __init__(self, place, one, two, states):
        # Where it stands by the first table, and the states to which it leads by each table alone.
        self.place = place
        self.one = one
        self.two = two
        # The states to which the second table is led by other names on the way.
        self.states = states


class Search:
    """Looks for the least name that is torn, by groups in the order of their names."""

    def __init__(self, exchange, labels):
        self.exchange = exchange
        self.machine = exchange.machine
        self.labels = labels
        self.groups = []
        # For each group, the number of the one ahead of it and the label between them.
        self.came = []
        # The states of groups with the same place and the same state by the second table.
        self.seen = {}

    def find_name(self):
        """Return the least name that is torn, or None."""
        own, one = behind(self.machine, 0, ONE)
        told, two = behind(self.machine, 0, TWO)
        if is_torn(self.exchange.answers_at(ROOT), own, told):
            return ()
        place, states = self.exchange.start()
        self.add_group(Group(place, one, two, list(states)), -1, "")
        at = 0
        while at < len(self.groups):
            label = self.torn_label(at)
            if label is not None:
                return name_to(self.came, at) + (label,)
            at += 1
        return None

    def torn_label(self, at):
        """Return the first label behind which a name of this group is torn; None if there is none.

        The groups behind all labels are added then.
        """
        group = self.groups[at]
        for label in labels_to_ask(self.labels, self.labels_behind(group)):
            own, one = behind(self.machine, group.one, label)
            told, two = behind(self.machine, group.two, label)
            ends = [behind(self.machine, state, label) for state in group.states]
            node = self.exchange.node_behind(group.place, label)
            if is_torn([answer for answer, state in ends] + self.exchange.answers_at(node), own, told):
                return label
            place, met = self.exchange.enter(node)
            self.add_group(Group(place, one, two, [state for answer, state in ends] + met), at, label)
        return None

    def labels_behind(self, group):
        """Return the labels behind which something is known, as a list; some can stand in it more than once."""
        labels = [] if group.place is None else list(self.exchange.tree.below[group.place])
        for state in [group.one, group.two, *group.states]:
            labels.extend(labels_at(self.machine, state))
        return labels

    def add_group(self, group, at, label):
        """Add a group without the states that have been come to by a lesser name, or that tell nothing new."""
        key = (group.place, group.one, group.two)
        is_new = key not in self.seen and group.place is not None
        known = self.seen.setdefault(key, {group.one: True, group.two: True})
        fresh = []
        for state in group.states:
            if state not in known:
                known[state] = True
                fresh.append(state)
        if is_new or fresh:
            group.states = fresh
            self.groups.append(group)
            self.came.append((at, label))


def is_torn(answers, own, told):
    return any([answer not in (own, told) for answer in answers])
