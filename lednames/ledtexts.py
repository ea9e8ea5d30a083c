"""Names, rows, tables, answers and numbers as texts."""

from lednames.answers import GROWS, NOTHING, ROUND, is_thing
from lednames.errors import BadText
from lednames.names import checked_name, is_label
from lednames.tables import Lead, Other, Rest, Stop, Table, Thing, kind_of

ROOT_TEXT = "."
DOT = "."
BLANK = " "
EMPTY = "empty"
SEPARATOR = "; "
# The words of the kinds of rows, at the numbers of the kinds.
WORDS = ("thing", "other", "lead", "rest", "stop")
MOST_DIGITS = 30
# Python writes out numbers of some thousand digits at most, so numbers are written in parts of so many digits.
PART_DIGITS = 60
PART = 10 ** 60


def name_text(name):
    """Return the text of a name."""
    return DOT.join(checked_name(name)) or ROOT_TEXT


def table_text(table):
    """Return the text of a table."""
    return SEPARATOR.join([row_text(row) for row in table.rows]) or EMPTY


def answer_text(answer):
    """Return the text of an answer."""
    if is_thing(answer):
        return f"{answer[0]} {number_text(answer[1])}"
    return answer[0]


def row_text(row):
    """Return the text of a row."""
    start = f"{WORDS[kind_of(row)]} {name_text(row.name)}"
    if isinstance(row, (Thing, Rest)):
        return f"{start} {number_text(row.thing)}"
    if isinstance(row, (Other, Lead)):
        return f"{start} {name_text(row.target)}"
    return start


def number_text(number):
    """Return the text of a number, however many digits it has."""
    left = abs(number)
    parts = []
    while left >= PART:
        left, part = divmod(left, PART)
        parts.append(str(part).zfill(PART_DIGITS))
    parts.append(str(left))
    if number < 0:
        parts.append("-")
    return "".join(parts[::-1])


def read_name(text):
    """Return the name with a text; raise BadText with the place of the first label that is none."""
    if not isinstance(text, str):
        raise BadText(0)
    if text == ROOT_TEXT:
        return ()
    labels = text.split(DOT)
    for place, label in enumerate(labels):
        if not is_label(label):
            raise BadText(place)
    return tuple(labels)


def read_table(text):
    """Return the table with a text; raise BadText with the place of the first row that is none."""
    if not isinstance(text, str):
        raise BadText(0)
    if text == EMPTY:
        return Table([])
    return Table([row_at(place, part) for place, part in enumerate(text.split(SEPARATOR))])


def row_at(place, text):
    """Return the row with a text, which stands at this place of another text."""
    try:
        return read_row(text)
    except BadText:
        raise BadText(place) from None


def read_row(text):
    """Return the row with a text."""
    word, *parts = text.split(BLANK)
    if word == "stop" and len(parts) == 1:
        return Stop(read_name(parts[0]))
    if len(parts) == 2:
        return read_pair(word, read_name(parts[0]), parts[1])
    raise BadText(0)


def read_pair(word, name, text):
    """Return the row that begins with a word and a name and has a thing or a target, told by the text."""
    if word == "thing":
        return Thing(name, read_number(text))
    if word == "other":
        return Other(name, read_name(text))
    if word == "lead":
        return Lead(name, read_name(text))
    if word == "rest":
        return Rest(name, read_number(text))
    raise BadText(0)


def read_answer(text):
    """Return the answer with a text."""
    for answer in (NOTHING, ROUND, GROWS):
        if text == answer[0]:
            return answer
    word, blank, number = text.partition(BLANK)
    if word != "thing":
        raise BadText(0)
    return ("thing", read_number(number))


def read_number(text):
    """Return the number with a text."""
    digits = text.removeprefix("-")
    if not (digits.isascii() and digits.isdigit()) or len(digits) > MOST_DIGITS:
        raise BadText(0)
    # Neither zeros in front nor a negative zero.
    number = int(text)
    if number_text(number) != text:
        raise BadText(0)
    return number
