"""Where one stands when labels have been read and more are left, without going through the moves.

A place is a pair of a kind and a node:
("node", node): one stands at this node, which has no Lead;
("left", node): the name has left the table at this node;
("round", ROOT), ("grows", ROOT): the name is led on without an end.
"""

from lednames.trees import LEAD, ROOT

# The node of the run that belongs to no Lead.
NO_NODE = -1


class Run:
    """Labels that are read from the root on, with more left behind them."""

    def __init__(self, node, labels):
        # The node whose Lead has these labels as its target.
        self.node = node
        self.labels = labels
        self.done = 0
        # The node to which the labels that are done have led; its own Lead is still to be followed.
        self.reached = ROOT
        # The nodes whose Leads have been followed, in order, each with the number of labels done by then.
        self.leads = []
        # Where the labels have led when all that can be read is done.
        self.place = None

    def step(self, tree, node):
        """Read the next label at a node that has no Lead."""
        deeper = tree.node_below(node, self.labels[self.done])
        self.done += 1
        if deeper is None:
            self.place = ("left", node)
        else:
            self.reached = deeper


class Reader:
    """Reads labels by a table. Where each Lead leads to is found only once."""

    def __init__(self, table):
        self.table = table
        # For each node with a Lead that is known: the place, and how often each row is used on the way to it.
        self.places = {}
        self.uses = {}
        # Only if its place is not endless: how its target has been read, and the number of moves to the place.
        # A run stands here behind all those whose Leads it has followed.
        self.runs = {}
        self.moves = {}

    def read_labels(self, labels):
        """Return the run that has read these labels, with more left behind them."""
        first = Run(NO_NODE, labels)
        # Each run waits for the next one. A stack, since there can be more than Python's calls can be nested.
        waiting = [first]
        while waiting:
            run = waiting[-1]
            if self.go_on(run):
                waiting.pop()
                if run.node != NO_NODE:
                    self.keep_run(run)
            elif run.reached in [held.node for held in waiting]:
                self.keep_endless(waiting)
                del waiting[1:]
            else:
                number = self.lead_at(run.reached)
                waiting.append(Run(run.reached, self.table.rows[number].target))
        return first

    def lead_at(self, node):
        return self.table.tree.row_at(node, LEAD)

    def place_at(self, node):
        """Return where one stands at a node with labels left."""
        if self.lead_at(node) is None:
            return ("node", node)
        if node not in self.places:
            self.read_labels(self.table.tree.name_of(node))
        return self.places[node]

    def go_on(self, run):
        """Read on to the run's place; return False at a Lead that is not known yet."""
        while run.place is None:
            place = ("node", run.reached)
            if self.lead_at(run.reached) is not None:
                if run.reached not in self.places:
                    return False
                run.leads.append((run.reached, run.done))
                place = self.places[run.reached]
            if place[0] != "node" or run.done == len(run.labels):
                run.place = place
            else:
                run.step(self.table.tree, place[1])
        return True

    def keep_run(self, run):
        uses = self.uses_of(run)
        uses[self.lead_at(run.node)] = 1
        self.places[run.node] = run.place
        self.uses[run.node] = uses
        if run.place[0] not in ("round", "grows"):
            self.runs[run.node] = run
            self.moves[run.node] = 1 + sum([self.moves[node] for node, done in run.leads])

    def keep_endless(self, waiting):
        """Keep what becomes of runs the last of which has come to the Lead of one that waits for it."""
        again = [run.node for run in waiting].index(waiting[-1].reached)
        # The labels that these runs have not read are put in between anew each time one comes round.
        unread = sum([len(run.labels) - run.done for run in waiting[again:]])
        place = ("grows" if unread > 0 else "round", ROOT)
        for run in waiting[1:]:
            self.places[run.node] = place
            self.uses[run.node] = {}

    def uses_of(self, run):
        """Return how often each row is used by the moves of a run, by the rows' numbers."""
        followed = {}
        for node, done in run.leads:
            followed[node] = followed.get(node, 0) + 1
        total = {}
        for node, times in followed.items():
            for number, many in self.uses[node].items():
                total[number] = total.get(number, 0) + times * many
        return total
