"""Answers, and how rows tell them."""

NOTHING = ("nothing",)
ROUND = ("round",)
GROWS = ("grows",)


def answer_by(table, number):
    """Return the answer that the row with this number tells; nothing for None."""
    if number is None:
        return NOTHING
    return ("thing", table.rows[number].thing)
