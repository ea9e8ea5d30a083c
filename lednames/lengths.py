"""How many labels names have on their way, told without going through the moves."""


def last_short(path, most):
    """Return the number of the last moves after which the name has at most so many labels.

    The path grows, and its first name has no more labels than these.
    """
    lows = lows_of(path.reader)
    ring = path.steps[path.again:]
    rounds = (most - min([low_of(path, lows, step) for step in ring])) // path.grown()
    if rounds < 0:
        return last_in(path, lows, path.steps[:path.again], most)
    return last_in(path, lows, ring, most - rounds * path.grown()) + rounds * (path.moves - path.ahead())


def lows_of(reader):
    """Return the least number of labels on the way from each node by its Lead, that of the place left out."""
    lows = {}
    for node, run in reader.runs.items():
        low = len(reader.table.tree.name_of(node))
        for lead, done in run.leads:
            low = min(low, lows[lead] + len(run.labels) - done)
        lows[node] = low
    return lows


def low_of(path, lows, step):
    """Return the least number of labels of a name in a step, that after it left out."""
    if step.whole:
        return lows[step.node] + step.tail.size
    return len(path.reader.table.tree.name_of(step.node)) + step.tail.size


def last_in(path, lows, steps, most):
    """Return the number of the last moves to a name in one of the steps that has at most so many labels."""
    for step in reversed(steps):
        if low_of(path, lows, step) <= most:
            if step.whole:
                return step.before + last_in_lead(path.reader, lows, step.node, most - step.tail.size)
            return step.before
    return 0


def last_in_lead(reader, lows, node, most):
    """Return the last number of moves by a node's Lead, ahead of its place, to so few labels; there is one."""
    passed = 0
    while True:
        run = reader.runs[node]
        found = None
        before = passed + 1
        for lead, done in run.leads:
            unread = len(run.labels) - done
            if lows[lead] + unread <= most:
                found = (lead, before, unread)
            before += reader.moves[lead]
        if found is None:
            return passed
        node, passed, unread = found
        most -= unread
