"""The names with an answer: the least one, how many there are, and which one stands at a place."""

from lednames.answers import checked_answer
from lednames.classes import classes_of, least_homes
from lednames.errors import BadLabels, NoPlace
from lednames.labels import labels_asked, labels_to_ask
from lednames.machines import behind
from lednames.names import is_label, is_number


def first_name(table, answer):
    """Return the least name with an answer; None if there is none."""
    answer = checked_answer(answer)
    classes = classes_of(table)
    if classes.own == answer:
        return ()
    labels = labels_asked([table])
    homes = least_homes(classes)
    # The classes are in the order of these names.
    for state, edges in enumerate(classes.edges):
        for label in labels_to_ask(labels, edges):
            if behind(classes, state, label)[0] == answer:
                return homes[state] + (label,)
    return None


def count_names(table, labels, length, answer):
    """Return how many of all names of so many of these labels have an answer."""
    labels = checked_labels(labels)
    return Counts(classes_of(table), labels, checked_answer(answer), length).count_all(length)


def name_at(table, labels, length, answer, place):
    """Return the name at a place in the order of all names of so many of these labels that have an answer."""
    labels = checked_labels(labels)
    classes = classes_of(table)
    counts = Counts(classes, labels, checked_answer(answer), length)
    if not is_number(place) or not 0 <= place < counts.count_all(length):
        raise NoPlace(place)
    name = []
    state = 0
    while len(name) < length:
        for label in labels:
            own, after = behind(classes, state, label)
            many = counts.count_from(own, after, length - len(name) - 1)
            if place < many:
                break
            place -= many
        name.append(label)
        state = after
    return tuple(name)


def checked_labels(labels):
    """Return the labels in order; raise BadLabels for the first one that is none, or comes twice."""
    seen = {}
    for place, label in enumerate(labels):
        if not is_label(label) or label in seen:
            raise BadLabels(place)
        seen[label] = True
    return sorted(seen)


class Counts:
    """How many names of some labels have an answer, by their numbers of labels and by the state from which on."""

    def __init__(self, classes, labels, answer, most):
        self.classes = classes
        self.answer = answer
        # The number of all names of so many of the labels.
        self.powers = [1]
        # For each number of labels, but none, the number of names with the answer from each state on.
        self.counts = [[0] * len(classes.left)]
        known = [[edges[label] for label in labels if label in edges] for edges in classes.edges]
        for number in range(most):
            counts = [self.count_behind(number, state, known[state], len(labels)) for state in range(len(known))]
            self.counts.append(counts)
            self.powers.append(self.powers[-1] * len(labels))

    def count_behind(self, number, state, known, many):
        """Return the number of names of one label and so many more, for a state with these known ones among all."""
        left = self.classes.left[state]
        total = (many - len(known)) * self.count_from(left, left, number)
        for own, after in known:
            total += self.count_from(own, after, number)
        return total

    def count_from(self, own, state, number):
        """Return the number of names of so many labels behind a name that has its own answer and leads to a state."""
        if number == 0:
            return 1 if own == self.answer else 0
        if isinstance(state, tuple):
            return self.powers[number] if state == self.answer else 0
        return self.counts[number][state]

    def count_all(self, length):
        if length < 0:
            return 0
        return self.count_from(self.classes.own, 0, length)
