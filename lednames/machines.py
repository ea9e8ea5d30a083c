"""Tables as machines that read names label by label, and are in a state when more labels are left."""

from lednames.answers import NOTHING, ROUND, answer_by
from lednames.places import Reader
from lednames.reading import answer_at, find_end, other_at
from lednames.tables import Other
from lednames.trees import OTHER, REST, ROOT, THING


class Machine:
    """The states, numbered, from that ahead of the first label on.

    For each state: `edges` has for some labels the answer of the name that ends with the label, and the state behind
    it; all other labels, and all names below them, have the answer `left`. `own` is the answer of the root.
    """

    def __init__(self, own, left, edges):
        self.own = own
        self.left = left
        self.edges = edges


def machine_of(table):
    """Return the machine of a table; its states are the places to which names lead."""
    reader = Reader(table)
    others = answers_of_others(reader)
    places = [place_key(reader, ROOT)]
    numbers = {places[0]: 0}
    left = []
    edges = []
    while len(edges) < len(places):
        kind, what = places[len(edges)]
        edges.append({})
        if kind == "all":
            left.append(what)
            continue
        left.append(answer_by(table, table.tree.row_at(what, REST)))
        for label, node in table.tree.below[what].items():
            place = place_key(reader, node)
            if place not in numbers:
                numbers[place] = len(places)
                places.append(place)
            edges[-1][label] = (own_answer(table, others, node), numbers[place])
    return Machine(own_answer(table, others, ROOT), left, edges)


def place_key(reader, node):
    kind, place = reader.place_at(node)
    if kind == "node":
        return ("node", place)
    return ("all", answer_at(reader.table, kind, place))


def own_answer(table, others, node):
    """Return the answer of the name of a node."""
    number = table.tree.row_at(node, OTHER)
    if number is not None:
        return others[number]
    return answer_by(table, table.tree.row_at(node, THING))


def answers_of_others(reader):
    """Return the answers of the names that have an Other, by the numbers of the rows."""
    answers = {}
    for number, row in enumerate(reader.table.rows):
        if isinstance(row, Other):
            follow_others(reader, number, answers)
    return answers


def follow_others(reader, number, answers):
    """Add the answers of a row of Other and of those that it leads to."""
    table = reader.table
    chain = {}
    answer = None
    while answer is None:
        chain[number] = True
        (kind, node), uses = find_end(reader, table.rows[number].target)
        number = other_at(table, kind, node)
        if number is None:
            answer = answer_at(table, kind, node)
        elif number in chain:
            answer = ROUND
        else:
            answer = answers.get(number)
    for number in chain:
        answers[number] = answer


def behind(machine, state, label):
    """Return the answer of the name that ends with a label, and the state behind it.

    A state is a number here, or the answer that all names have from there on.
    """
    if isinstance(state, tuple):
        return (state, state)
    left = machine.left[state]
    return machine.edges[state].get(label, (left, left))


def labels_at(machine, state):
    """Return the labels by which a state goes on otherwise than by most, as a list."""
    return [] if isinstance(state, tuple) else list(machine.edges[state])


def behind_name(machine, name):
    """Return the answer of a name, and the state behind it."""
    answer, state = (machine.own, 0)
    for label in name:
        answer, state = behind(machine, state, label)
    return (answer, state)


def machine_for(machine, answer):
    """Return the machine in which just the names with this answer have the thing 1, and all others nothing."""
    told = {True: ("thing", 1), False: NOTHING}
    left = [told[found == answer] for found in machine.left]
    edges = [{label: (told[own == answer], state) for label, (own, state) in marked.items()}
             for marked in machine.edges]
    return Machine(told[machine.own == answer], left, edges)
