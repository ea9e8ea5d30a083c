"""Comparing two machines, to find the least name with unlike answers."""

from lednames.labels import labels_to_ask
from lednames.machines import behind, labels_at


class Pairs:
    """Pairs of states of two machines to which a name leads, in the order of the least such names.

    A state is a number, or the answer that all names have from there on.
    """

    def __init__(self):
        self.pairs = [(0, 0)]
        # For each pair, the number of the pair ahead of it and the label between them.
        self.came = [(-1, "")]
        # States that would have to be alike if all pairs are, joined to groups: for each one, another one of its group.
        self.joined = {(0, 0): (1, 0)}

    def first_of(self, key):
        """Return the state that stands for the group of this one."""
        while key in self.joined:
            after = self.joined[key]
            if after in self.joined:
                self.joined[key] = self.joined[after]
            key = after
        return key

    def add_pair(self, one, two, at, label):
        """Add a pair behind the one at `at`, unless it is alike if those that are there already are."""
        first, second = (self.first_of((0, one)), self.first_of((1, two)))
        if first != second:
            self.joined[first] = second
            self.pairs.append((one, two))
            self.came.append((at, label))


def name_to(came, at):
    """Return the name that leads to the entry at `at`, with the entry ahead of each one and the label between them."""
    labels = []
    while came[at][0] >= 0:
        at, label = came[at]
        labels.append(label)
    return tuple(labels[::-1])


def first_unlike(one, two, labels):
    """Return the least name of these labels with unlike answers by two machines; None if there is none."""
    if one.own != two.own:
        return ()
    found = Pairs()
    at = 0
    while at < len(found.pairs):
        first, second = found.pairs[at]
        for label in labels_to_ask(labels, labels_at(one, first) + labels_at(two, second)):
            answer, state = behind(one, first, label)
            told, other = behind(two, second, label)
            if answer != told:
                return name_to(found.came, at) + (label,)
            found.add_pair(state, other, at, label)
        at += 1
    return None
