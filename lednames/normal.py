"""Normal tables, told from classes."""

from lednames.answers import GROWS, NOTHING, ROUND, is_thing
from lednames.classes import is_empty, is_plain, least_homes
from lednames.tables import Lead, Other, Rest, Stop, Thing


def parts_of(classes):
    """Return the numbers (T, D, N, E, K) of the second fact."""
    things = 1 if classes.own != NOTHING else 0
    if is_empty(classes, 0):
        return (things, 0, 0, 0, 0)
    lefts = stops = edges = full = 0
    for state in range(len(classes.left)):
        if not is_empty(classes, state):
            full += 1
        if is_thing(classes.left[state]) or not (is_plain(classes, state) or is_empty(classes, state)):
            lefts += 1
        for own, after in classes.edges[state].values():
            if own != NOTHING:
                things += 1
            if not is_empty(classes, after):
                edges += 1
            elif own == NOTHING:
                stops += 1
    return (things, lefts, stops, edges, full)


def plain_graph(classes):
    """Return how many marked labels of each plain class lead to which others, with the plain ones numbered anew."""
    plain = [state for state in range(len(classes.left)) if is_plain(classes, state)]
    numbers = {state: number for number, state in enumerate(plain)}
    graph = []
    for state in plain:
        graph.append({})
        for own, after in classes.edges[state].values():
            if after in numbers:
                graph[-1][numbers[after]] = graph[-1].get(numbers[after], 0) + 1
    return graph


def growing_name(classes, homes):
    """Return the name for which names are looked for that grow; None if none do."""
    for state, left in enumerate(classes.left):
        if left == GROWS:
            return homes[state] + ("a",)
    return None


def normal_rows(classes):
    """Return the rows of the normal table whose homes are the least names that they can be."""
    homes = least_homes(classes)
    growing = growing_name(classes, homes)
    rows = own_rows((), classes.own, growing)
    if not is_plain(classes, 0):
        rows.extend(constant_rows((), classes.left[0]))
    for state, edges in enumerate(classes.edges):
        if not edges:
            continue
        rows.extend(constant_rows(homes[state], classes.left[state]))
        for label, (own, after) in edges.items():
            name = homes[state] + (label,)
            rows.extend(own_rows(name, own, growing))
            if own == NOTHING and is_empty(classes, after):
                rows.append(Stop(name))
            elif not is_plain(classes, after):
                rows.extend(constant_rows(name, classes.left[after]))
            elif name != homes[after]:
                rows.append(Lead(name, homes[after]))
    return rows


def own_rows(name, own, growing):
    """Return the row by which a name has its own answer, in a list."""
    if is_thing(own):
        return [Thing(name, own[1])]
    if own == ROUND:
        return [Other(name, name)]
    if own == GROWS:
        return [Other(name, growing)]
    return []


def constant_rows(name, answer):
    """Return the row by which all names below one that have no other row have an answer, in a list."""
    if is_thing(answer):
        return [Rest(name, answer[1])]
    if answer == ROUND:
        return [Lead(name, name)]
    if answer == GROWS:
        return [Lead(name, name + ("a",))]
    return []
