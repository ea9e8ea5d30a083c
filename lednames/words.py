"""Words: pairs of names and how often they come, one behind the other; and reading them by a table."""

from lednames.errors import BadWord
from lednames.names import is_name, is_number
from lednames.places import Reader
from lednames.trees import ROOT

MOST_TIMES = 10 ** 30


def checked_word(word):
    """Return a word as pairs of a tuple and a number, without those of no labels."""
    if not isinstance(word, (list, tuple)):
        raise BadWord(-1)
    for place, pair in enumerate(word):
        if not is_pair(pair):
            raise BadWord(place)
    return [(tuple(name), times) for name, times in word if name and times > 0]


def is_pair(value):
    if not isinstance(value, (list, tuple)) or len(value) != 2:
        return False
    name, times = value
    return is_name(name) and is_number(times) and 0 <= times <= MOST_TIMES


class WordReader:
    """Where one stands when words have been read, with more behind them, and after how many moves."""

    def __init__(self, table):
        self.reader = Reader(table)
        # For a node and a label, and for a node and a name: the place behind it, and the moves to there.
        self.known = {}
        # A Lead at the root is followed without an end, so there are no moves to count.
        self.place = self.reader.place_at(ROOT)
        self.moves = 0

    def read_name(self, name):
        if self.place[0] == "node":
            key = (self.place[1], name)
            if key not in self.known:
                self.known[key] = self.name_read(self.place, name)
            self.place, moves = self.known[key]
            self.moves += moves

    def name_read(self, place, name):
        """Return the place behind a name that is read from a place on, and the moves to there."""
        total = 0
        for label in name:
            if place[0] != "node":
                break
            key = (place[1], label)
            if key not in self.known:
                self.known[key] = self.label_read(place[1], label)
            place, moves = self.known[key]
            total += moves
        return (place, total)

    def label_read(self, node, label):
        """Return the place behind a label, and the moves to there."""
        deeper = self.reader.table.tree.node_below(node, label)
        if deeper is None:
            return (("left", node), 0)
        return (self.reader.place_at(deeper), self.reader.moves.get(deeper, 0))

    def read_often(self, name, times):
        """Read a name so often; as soon as a node comes again, all rounds that are left are taken at once."""
        seen = {}
        while times > 0 and self.place[0] == "node":
            node = self.place[1]
            if node in seen:
                before, moves = seen[node]
                rounds, times = divmod(times, before - times)
                self.moves += rounds * (self.moves - moves)
                seen = {}
            else:
                seen[node] = (times, self.moves)
                self.read_name(name)
                times -= 1
