"""All moves from a name on, as steps of which each can be very many moves."""

from lednames.places import Reader
from lednames.trees import OTHER, ROOT

# The most labels of a name that words have, as long as no single part of it has more.
MOST_LABELS = 1000


class Tail:
    """The labels from `done` on, and those of another tail behind them."""

    def __init__(self, labels, done, behind):
        self.labels = labels
        self.done = done
        self.behind = behind
        self.size = len(labels) - done
        if behind is not None:
            self.size += behind.size

    def first_label(self):
        return self.labels[self.done]

    def after_first(self):
        return Tail(self.labels, self.done + 1, self.behind)

    def all_labels(self):
        labels = []
        tail = self
        while tail is not None:
            labels.extend(tail.labels[tail.done:])
            tail = tail.behind
        return tuple(labels)


class Step:
    """Moves from the name of a node on, with the same labels behind it all the time.

    If it is whole, these are the moves by the node's Lead to its place; otherwise it is one move.
    """

    def __init__(self, node, whole, moves, before, tail):
        self.node = node
        self.whole = whole
        self.moves = moves
        # The number of moves ahead of this step.
        self.before = before
        self.tail = tail


class Path:
    """The steps from a name on, to the one that has an answer or as far as they are not repeated."""

    def __init__(self, table):
        self.reader = Reader(table)
        self.steps = []
        self.moves = 0
        # The number of the step that comes again behind the last one; None if there is an answer.
        self.again = None
        # Where the name stands then: its node, and what is left behind it.
        self.node = ROOT
        self.tail = Tail((), 0, None)

    def add_step(self, node, whole, moves, tail):
        self.steps.append(Step(node, whole, moves, self.moves, tail))
        self.moves += moves

    def follow_leads(self, name):
        """Add the steps by Leads; return whether the name ends at a node then."""
        entered = {}
        self.node = ROOT
        self.tail = Tail(name, 0, None)
        while self.tail.size > 0:
            number = self.reader.lead_at(self.node)
            if number is None:
                if not self.read_label():
                    return False
            elif self.node in entered:
                self.again = entered[self.node]
                return False
            elif self.reader.place_at(self.node)[0] == "node":
                self.pass_lead()
            else:
                entered[self.node] = len(self.steps)
                self.enter_lead(number)
        return True

    def read_label(self):
        """Go on to the node that has one label more; return False if there is none."""
        deeper = self.reader.table.tree.node_below(self.node, self.tail.first_label())
        if deeper is None:
            return False
        self.node = deeper
        self.tail = self.tail.after_first()
        return True

    def pass_lead(self):
        """Add all moves to the place of the node's Lead."""
        self.add_step(self.node, True, self.reader.moves[self.node], self.tail)
        self.node = self.reader.place_at(self.node)[1]

    def enter_lead(self, number):
        """Add one move by the node's Lead; what it leads to is never read to its end, nor any label of the tail."""
        self.add_step(self.node, False, 1, self.tail)
        self.tail = Tail(self.reader.table.rows[number].target, 0, self.tail)
        self.node = ROOT

    def follow_other(self, number):
        """Add the step by an Other; return the name to which it leads."""
        self.add_step(self.node, False, 1, self.tail)
        return self.reader.table.rows[number].target

    def ahead(self):
        """Return the number of moves ahead of those that are repeated."""
        return self.steps[self.again].before

    def folded(self, count):
        """Return how many rounds of the repeated steps are in so many moves, and the number of moves without them."""
        if self.again is None or count < self.moves:
            return (0, count)
        rounds, more = divmod(count - self.ahead(), self.moves - self.ahead())
        return (rounds, self.ahead() + more)

    def grown(self):
        """Return by how many labels the name is longer each time a step comes again."""
        return self.tail.size - self.steps[self.again].tail.size


def path_of(table, name):
    path = Path(table)
    used = {}
    while path.follow_leads(name):
        number = table.tree.row_at(path.node, OTHER)
        if number is None:
            break
        if number in used:
            path.again = used[number]
            break
        used[number] = len(path.steps)
        name = path.follow_other(number)
    return path


def word_after(path, count):
    """Return the name after so many moves as a word; None if there are fewer."""
    rounds, count = path.folded(count)
    if not 0 <= count <= path.moves:
        return None
    labels = labels_after(path, count)
    if rounds == 0:
        return joined_word([(labels, 1)])
    # What has grown stands ahead of the labels that were left when the repeated steps were first come to.
    cut = len(labels) - path.steps[path.again].tail.size
    grown = path.tail.all_labels()[:path.grown()]
    return joined_word([(labels[:cut], 1), (grown, rounds), (labels[cut:], 1)])


def labels_after(path, count):
    """Return the name after so many moves, none of which is repeated."""
    tree = path.reader.table.tree
    if count == path.moves:
        return tree.name_of(path.node) + path.tail.all_labels()
    step = step_at(path.steps, count)
    node, labels = (step.node, ())
    if step.whole:
        node, labels = within_lead(path.reader, step.node, count - step.before)
    return tree.name_of(node) + labels + step.tail.all_labels()


def step_at(steps, count):
    """Return the step in which so many moves have been made."""
    low, high = (0, len(steps) - 1)
    while low < high:
        middle = (low + high + 1) // 2
        if steps[middle].before <= count:
            low = middle
        else:
            high = middle - 1
    return steps[low]


def within_lead(reader, node, count):
    """Return the node and the labels behind it that stand for the node's name after so many moves by its Lead.

    There are more moves than these to the place of the Lead.
    """
    labels = ()
    while count > 0:
        count -= 1
        run = reader.runs[node]
        for lead, done in run.leads:
            if count < reader.moves[lead]:
                labels = run.labels[done:] + labels
                node = lead
                break
            count -= reader.moves[lead]
    return (node, labels)


def joined_word(pairs):
    """Return the pairs without those of no labels; neighbours that come once make one name, if it is not too long."""
    word = []
    for name, times in pairs:
        if word and word[-1][1] == times == 1 and len(word[-1][0]) + len(name) <= MOST_LABELS:
            word[-1] = (word[-1][0] + name, 1)
        elif name:
            word.append((name, times))
    return word
