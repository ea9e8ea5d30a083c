"""Flat tables, which have neither Lead nor Other, told from classes."""

from lednames.answers import NOTHING, is_thing
from lednames.classes import is_empty
from lednames.tables import Rest, Stop, Thing


def count_flat(classes):
    """Return the least number of rows of a flat table with these classes; None if there is none."""
    order = classes_from_below(classes)
    if order is None or not has_flat_answers(classes):
        return None
    counts = {}
    for state in order:
        counts[state] = 1 if is_thing(classes.left[state]) else 0
        for own, after in classes.edges[state].values():
            counts[state] += counts[after]
            if is_own_row(classes, own, after):
                counts[state] += 1
    return counts[0] + (1 if is_thing(classes.own) else 0)


def has_flat_answers(classes):
    answers = [classes.own] + classes.left
    for edges in classes.edges:
        answers.extend([own for own, after in edges.values()])
    return all([is_thing(answer) or answer == NOTHING for answer in answers])


def is_own_row(classes, own, after):
    """Return whether a name with this answer and this class has a row of its own, a Thing or a Stop."""
    return is_thing(own) or is_empty(classes, after)


def classes_from_below(classes):
    """Return the classes, each one behind all those to which it leads; None if one leads to itself."""
    into = [0] * len(classes.left)
    for edges in classes.edges:
        for own, after in edges.values():
            into[after] += 1
    order = []
    free = [state for state in range(len(into)) if into[state] == 0]
    while free:
        state = free.pop()
        order.append(state)
        for own, after in classes.edges[state].values():
            into[after] -= 1
            if into[after] == 0:
                free.append(after)
    if len(order) < len(into):
        return None
    return order[::-1]


def flat_rows(classes):
    """Return the rows of the flat table with the fewest rows."""
    rows = thing_rows((), classes.own)
    waiting = [((), 0)]
    while waiting:
        name, state = waiting.pop()
        if is_thing(classes.left[state]):
            rows.append(Rest(name, classes.left[state][1]))
        for label, (own, after) in classes.edges[state].items():
            below = name + (label,)
            rows.extend(thing_rows(below, own))
            if own == NOTHING and is_empty(classes, after):
                rows.append(Stop(below))
            waiting.append((below, after))
    return rows


def thing_rows(name, own):
    if is_thing(own):
        return [Thing(name, own[1])]
    return []
