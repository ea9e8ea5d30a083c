"""Whether names keep the answers that they have by a first and a last table by a table between them, too."""

from lednames.joining import joined_machine
from lednames.labels import labels_asked, labels_to_ask
from lednames.machines import behind, labels_at, machine_of


def keeps_answers(first, between, last):
    """Return whether no name has the same answer by the first and the last table and another one between them."""
    tables = [first, between, last]
    machine = joined_machine([machine_of(table) for table in tables])
    labels = labels_asked(tables)
    roots = [behind(machine, 0, number) for number in range(len(tables))]
    if is_changed([answer for answer, state in roots]):
        return False
    waiting = [tuple([state for answer, state in roots])]
    seen = {waiting[0]: True}
    while waiting:
        states = waiting.pop()
        marked = [known for state in states for known in labels_at(machine, state)]
        for label in labels_to_ask(labels, marked):
            ends = [behind(machine, state, label) for state in states]
            if is_changed([answer for answer, state in ends]):
                return False
            after = tuple([state for answer, state in ends])
            # A state that is one of the first or of the last table has no other answers than these.
            if after not in seen and after[1] not in (after[0], after[2]):
                seen[after] = True
                waiting.append(after)
    return True


def is_changed(answers):
    first, between, last = answers
    return first == last != between
