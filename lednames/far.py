"""Names after very many moves, names led on without an end, and names of very many labels."""

from lednames.lengths import last_short
from lednames.names import checked_name
from lednames.paths import labels_after, path_of, word_after
from lednames.reading import answer_at, answer_of, count_moves, last_step, other_at
from lednames.words import WordReader, checked_word


def name_after(table, name, count):
    """Return the name after so many moves as a word, a list of pairs (name, times); None if there are fewer."""
    return word_after(path_of(table, checked_name(name)), count)


def ring_of(table, name):
    """Return the number of moves to the first name that comes again, and from there until it does; or None."""
    path = path_of(table, checked_name(name))
    if path.again is None or path.grown() > 0:
        return None
    length = path.moves - path.ahead()
    # The first step that comes again can begin behind the first name that does: look for it among all moves to there.
    low, high = (0, path.ahead())
    while low < high:
        middle = (low + high) // 2
        if labels_after(path, middle) == labels_after(path, path.folded(middle + length)[1]):
            high = middle
        else:
            low = middle + 1
    return (low, length)


def growth_of(table, name):
    """Return after how many moves the name has more labels than at first, for good; None if it does not grow."""
    name = checked_name(name)
    path = path_of(table, name)
    if path.again is None or path.grown() == 0:
        return None
    return last_short(path, len(name)) + 1


def far_answer(table, word):
    """Return the answer of a word's name."""
    return find_far(table, word)[0]


def far_moves(table, word):
    """Return the number of moves of a word's name; None if it is led on without an end."""
    return find_far(table, word)[1]


def find_far(table, word):
    pairs = checked_word(word)
    if not pairs:
        return (answer_of(table, ()), count_moves(table, ()))
    name, times = pairs[-1]
    words = WordReader(table)
    for before, many in pairs[:-1]:
        words.read_often(before, many)
    words.read_often(name, times - 1)
    words.read_name(name[:-1])
    kind, node = last_step(table.tree, words.place, name[-1])
    number = other_at(table, kind, node)
    if number is not None:
        return behind_other(table, table.rows[number].target, words.moves + 1)
    moves = None if kind in ("round", "grows") else words.moves
    return (answer_at(table, kind, node), moves)


def behind_other(table, target, moves):
    """Return the answer and the number of moves of a name that comes to the target after so many moves."""
    more = count_moves(table, target)
    if more is not None:
        more += moves
    return (answer_of(table, target), more)
