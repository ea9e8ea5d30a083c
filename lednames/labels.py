"""The labels of tables, and the one that is taken of all others."""

from lednames.tables import Lead, Other

LETTERS = "abcdefghijklmnopqrstuvwxyz"


def labels_asked(tables):
    """Return all labels of the tables' rows and the first one that stands in none, in order."""
    found = {}
    for table in tables:
        for row in table.rows:
            found.update({label: True for label in row.name})
            if isinstance(row, (Other, Lead)):
                found.update({label: True for label in row.target})
    found[first_free(found)] = True
    return sorted(found)


def first_free(found):
    """Return the first of a, b, .., z, aa, ab, .. that is not found."""
    number = 0
    while label_of(number) in found:
        number += 1
    return label_of(number)


def label_of(number):
    letters = ""
    while number >= 0:
        letters = LETTERS[number % len(LETTERS)] + letters
        number = number // len(LETTERS) - 1
    return letters


def labels_to_ask(labels, marked):
    """Return the marked labels, and the first of the labels that is not one, in order."""
    asked = {label: True for label in marked}
    asked[first_unmarked(labels, asked)] = True
    return sorted(asked)


def first_unmarked(labels, marked):
    """Return the first of the labels that is not a marked one."""
    for label in labels:
        if label not in marked:
            return label
    return None
