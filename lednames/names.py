"""What labels, names and numbers are, and the order of names."""

from lednames.errors import NoName

MOST_LETTERS = 8


def is_number(value):
    return isinstance(value, int) and not isinstance(value, bool)


def is_label(value):
    if not isinstance(value, str) or len(value) > MOST_LETTERS:
        return False
    return value.isascii() and value.isalpha() and value.islower()


def is_name(value):
    return isinstance(value, (list, tuple)) and all([is_label(label) for label in value])


def checked_name(name):
    """Return a name as a tuple; raise NoName for what is none."""
    if not is_name(name):
        raise NoName(name)
    return tuple(name)


def name_order(name):
    """Return the key by which names (as tuples) are put in order."""
    return (len(name), name)
