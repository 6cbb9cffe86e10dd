"""The rows that a desk answers."""

from firstfault.answers import PLAIN_ANSWERS
from firstfault.errors import InvalidText
from firstfault.eventreadings import read_event, read_log
from firstfault.wordlines import integers_in


def request_in(row):
    """Return the pair (word, thing) that a string asks for; None if it is no row that is possible.

    The thing is a program for "service", a state for "told", and an event for "bars", "parting" and "event"; it is
    None for a row of one word.
    """
    if row in PLAIN_ANSWERS:
        return row, None
    word, _, rest = row.partition(" ")
    if word == "told":
        state = integers_in(rest)
        return None if state is None else (word, state)
    try:
        if word == "service":
            return first_in(row)
        if word in ("bars", "parting"):
            return word, read_event(rest)
        return "event", read_event(row)
    except InvalidText:
        return None


def first_in(row):
    """Return the pair ("service", program) that the lines of a row write; None if more lines follow."""
    log = read_log(row.split("\n"))
    return log[0] if len(log) == 1 else None
