"""The moves, told from the rows alone and one by one, to compare the package with.

Only for small tables: a name of more than LONG labels is taken for one that grows without an end.
"""

from lednames.tables import Lead, Other, Rest, Stop, Thing

LONG = 150
# Names on the way that are to be asked of another table are followed as far as this many labels.
LONG_ON_THE_WAY = 45
KINDS = (Thing, Other, Lead, Rest, Stop)


def row_of(rows, kind, name):
    for row in rows:
        if isinstance(row, kind) and row.name == name:
            return row
    return None


def is_node(rows, name):
    return name == () or any(row.name[:len(name)] == name for row in rows)


def plain_move(rows, name):
    """Return (next name or None, answer or None, the row that is used or None)."""
    for at in range(len(name)):
        lead = row_of(rows, Lead, name[:at])
        if lead is not None:
            return (lead.target + name[at:], None, lead)
        if not is_node(rows, name[:at + 1]):
            return told(row_of(rows, Rest, name[:at]))
    other = row_of(rows, Other, name)
    if other is not None:
        return (other.target, None, other)
    return told(row_of(rows, Thing, name))


def told(row):
    if row is None:
        return (None, ("nothing",), None)
    return (None, ("thing", row.thing), row)


def plain_walk(rows, name):
    """Return (answer, number of moves or None, rows used, in their order of use, the names)."""
    seen = set()
    names = []
    used = []
    while True:
        if name in seen:
            return (("round",), None, None, names)
        if len(name) > LONG:
            return (("grows",), None, None, names)
        seen.add(name)
        names.append(name)
        name, answer, row = plain_move(rows, name)
        if row is not None:
            used.append(row)
        if answer is not None:
            return (answer, len(names) - 1, used, names)


def plain_uses(rows, name):
    """Return the uses of rows as pairs, the rows in the order of the document."""
    used = plain_walk(rows, name)[2]
    if used is None:
        return None
    ordered = sorted(rows, key=lambda row: (len(row.name), row.name, KINDS.index(row.__class__)))
    return [(row, used.count(row)) for row in ordered if row in used]


def plain_place(rows, name):
    """Return the place of a name, found with a label behind it that stands in no row."""
    answer, moves, used, names = plain_walk(rows, name + ("q",))
    if moves is None:
        return ("all", answer)
    last = names[-1]
    if last[-1:] == ("q",) and is_node(rows, last[:-1]):
        return ("node", last[:-1])
    return ("all", answer)


def plain_torn(rows, others, name, known):
    """Return the answers to which a name can come if so many moves go by the rows and all later ones by the others.

    `known` is a dict, in which answers by the others are kept from one call to the next.
    """
    answers = {plain_walk(rows, name)[0]: True}
    seen = set()
    answer = None
    while answer is None and name not in seen and len(name) <= LONG_ON_THE_WAY:
        seen.add(name)
        if name not in known:
            known[name] = plain_walk(others, name)[0]
        answers[known[name]] = True
        name, answer, row = plain_move(rows, name)
    return sorted(answers, key=answer_place)


def answer_place(answer):
    return (["thing", "nothing", "round", "grows"].index(answer[0]), answer[1:])


def labels_of(*tables):
    """Return the labels of rows and the first one that stands in none, in order."""
    labels = {label for table in tables for row in table.rows for label in row.name + getattr(row, "target", ())}
    return sorted(labels | {next(label for label in "abcdefgh" if label not in labels)})
