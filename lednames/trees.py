"""The nodes of a table as numbers, so that a name is gone through without building other names."""

ROOT = 0

# The kinds of rows, numbered in the order in which rows of one name stand in a table.
THING = 0
OTHER = 1
LEAD = 2
REST = 3
STOP = 4


class Tree:
    """The root and the nodes below it; for each node the numbers of its rows, by their kinds."""

    def __init__(self):
        self.above = [-1]
        self.label = [""]
        self.below = [{}]
        self.held = [{}]

    def add_name(self, name):
        """Return the node of a name; it and all nodes above it are made if they are not there yet."""
        node = ROOT
        for label in name:
            if label not in self.below[node]:
                self.below[node][label] = self.new_node(node, label)
            node = self.below[node][label]
        return node

    def node_of(self, name):
        """Return the node of a name that is there."""
        node = ROOT
        for label in name:
            node = self.below[node][label]
        return node

    def new_node(self, above, label):
        self.above.append(above)
        self.label.append(label)
        self.below.append({})
        self.held.append({})
        return len(self.above) - 1

    def hold_row(self, node, kind, number):
        self.held[node][kind] = number

    def row_at(self, node, kind):
        """Return the number of the node's row of this kind, or None."""
        return self.held[node].get(kind)

    def node_below(self, node, label):
        """Return the node that has this label more, or None."""
        return self.below[node].get(label)

    def is_led(self, node):
        """Return whether the node is below one that has a Lead."""
        node = self.above[node]
        while node >= ROOT:
            if LEAD in self.held[node]:
                return True
            node = self.above[node]
        return False

    def name_of(self, node):
        labels = []
        while node > ROOT:
            labels.append(self.label[node])
            node = self.above[node]
        return tuple(labels[::-1])

    def all_names(self):
        return [self.name_of(node) for node in range(len(self.above))]
