"""Blocks of states that are not known to be unlike."""


class Blocks:
    """At first, states with the same key are in one block."""

    def __init__(self, keys):
        # The number of each state's block, and the states of each block as the keys of a dict.
        self.block = []
        self.members = []
        numbers = {}
        for state, key in enumerate(keys):
            if key not in numbers:
                numbers[key] = len(self.members)
                self.members.append({})
            self.block.append(numbers[key])
            self.members[numbers[key]][state] = True
        # The blocks by which all others are still to be split: in order, and as the keys of a dict.
        self.queue = list(range(len(self.members)))
        self.waiting = {number: True for number in self.queue}

    def refine(self, into):
        """Split the blocks until the same labels lead from all states of a block to the same blocks.

        `into` has for each state the pairs of a state and a label that lead to it. States of one block have the same
        labels from the start.
        """
        while self.queue:
            number = self.queue.pop()
            del self.waiting[number]
            by_label = {}
            for state in self.members[number]:
                for before, label in into[state]:
                    by_label.setdefault(label, []).append(before)
            for label in by_label:
                self.split_by(by_label[label])

    def split_by(self, states):
        """Part these states from all others in their blocks."""
        parts = {}
        for state in states:
            parts.setdefault(self.block[state], []).append(state)
        for number, part in parts.items():
            if len(part) < len(self.members[number]):
                self.split_off(number, part)

    def split_off(self, number, part):
        for state in part:
            del self.members[number][state]
            self.block[state] = len(self.members)
        self.members.append({state: True for state in part})
        # If the block has been used up, the smaller part of it is enough; else both are needed.
        added = len(self.members) - 1
        if number not in self.waiting and len(part) > len(self.members[number]):
            added = number
        self.queue.append(added)
        self.waiting[added] = True
