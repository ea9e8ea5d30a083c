"""A desk, at which a table is changed and asked by commands."""

from lednames.changes import Drop, Put, table_after
from lednames.counting import first_name
from lednames.errors import BadText, LedError, NoBack
from lednames.least import least_count
from lednames.ledtexts import (answer_text, name_text, number_text, read_answer, read_name, read_number, read_row,
                               read_table, row_text, table_text)
from lednames.likeness import idle_rows, unlike_name
from lednames.moving import walk_of
from lednames.reading import answer_of, count_moves, place_of
from lednames.tables import Table
from lednames.tearing import torn_name

MOST_NAMES = 2000
NONE = "none"


class Desk:
    """A table, and those that it has been before."""

    def __init__(self):
        self.table = Table([])
        self.earlier = []

    def tell(self, command):
        """Return what a command, one string, is answered with, as a list of strings."""
        try:
            return run_command(self, command)
        except LedError as error:
            return [error.told()]

    def keep(self, table):
        """Let this be the table from now on."""
        self.earlier.append(self.table)
        self.table = table

    def go_back(self):
        """Undo the last change of the table that is not undone."""
        if not self.earlier:
            raise NoBack()
        self.table = self.earlier.pop()


def run_command(desk, command):
    if not isinstance(command, str):
        raise BadText(0)
    word, blank, text = command.partition(" ")
    if not blank and word in ALONE:
        action = ALONE[word]
        return action(desk)
    if blank and word in WITH_TEXT:
        action = WITH_TEXT[word]
        return action(desk, text)
    raise BadText(0)


def tell_table(desk):
    return [table_text(desk.table)]


def tell_back(desk):
    desk.go_back()
    return ["done"]


def tell_least(desk):
    return [number_text(least_count(desk.table))]


def tell_idle(desk):
    return [row_text(row) for row in idle_rows(desk.table)] or [NONE]


def tell_put(desk, text):
    desk.keep(table_after(desk.table, Put(read_row(text))))
    return ["done"]


def tell_drop(desk, text):
    desk.keep(table_after(desk.table, Drop(read_row(text))))
    return ["done"]


def tell_kept(desk, text):
    desk.keep(read_table(text))
    return ["kept"]


def tell_ask(desk, text):
    return [answer_text(answer_of(desk.table, read_name(text)))]


def tell_moves(desk, text):
    moves = count_moves(desk.table, read_name(text))
    return [NONE if moves is None else number_text(moves)]


def tell_walk(desk, text):
    first, blank, second = text.partition(" ")
    name = read_name(first)
    most = read_number(second)
    if not 1 <= most <= MOST_NAMES:
        raise BadText(0)
    return [name_text(found) for found in walk_of(desk.table, name, most)]


def tell_place(desk, text):
    kind, what = place_of(desk.table, read_name(text))
    told = name_text(what) if kind == "node" else answer_text(what)
    return [f"{kind} {told}"]


def tell_first(desk, text):
    return [name_or_none(first_name(desk.table, read_answer(text)))]


def tell_unlike(desk, text):
    return [name_or_none(unlike_name(desk.table, read_table(text)))]


def tell_torn(desk, text):
    torn = torn_name(desk.table, read_table(text))
    if torn is None:
        return ["safe"]
    name, answer = torn
    return [f"{name_text(name)} {answer_text(answer)}"]


def name_or_none(name):
    return NONE if name is None else name_text(name)


# By their first words: the commands of one word, and those with a text behind it.
ALONE = {"table": tell_table, "back": tell_back, "least": tell_least, "idle": tell_idle}
WITH_TEXT = {"put": tell_put, "drop": tell_drop, "table": tell_kept, "ask": tell_ask, "moves": tell_moves,
             "walk": tell_walk, "place": tell_place, "first": tell_first, "unlike": tell_unlike, "torn": tell_torn}
