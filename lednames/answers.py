"""What answers are, and how rows tell them."""

from lednames.errors import BadAnswer
from lednames.names import is_number

NOTHING = ("nothing",)
ROUND = ("round",)
GROWS = ("grows",)


def answer_by(table, number):
    """Return the answer that the row with this number tells; nothing for None."""
    if number is None:
        return NOTHING
    return ("thing", table.rows[number].thing)


def is_thing(answer):
    return answer[0] == "thing"


def answer_order(answer):
    """Return the key by which answers are put in order: things first, by their numbers."""
    if is_thing(answer):
        return (0, answer[1])
    return ((NOTHING, ROUND, GROWS).index(answer) + 1, 0)


def is_answer(value):
    if not isinstance(value, (list, tuple)) or not all([isinstance(part, (str, int)) for part in value]):
        return False
    if len(value) == 2:
        return value[0] == "thing" and is_number(value[1])
    return tuple(value) in (NOTHING, ROUND, GROWS)


def checked_answer(answer):
    """Return an answer as a tuple; raise BadAnswer for what is none."""
    if not is_answer(answer):
        raise BadAnswer()
    return tuple(answer)
