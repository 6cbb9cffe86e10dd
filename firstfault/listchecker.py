"""The checker of list papers."""

from firstfault.errors import InvalidPaper
from firstfault.kinds import is_number, is_pair, is_state
from firstfault.lists import failing_table


def lets_list(items, checks, thing):
    """Return the set of the indexes of the idle checks, as a list paper tells them; InvalidPaper if it is none."""
    if not isinstance(thing, tuple) or not all([is_entry(entry) for entry in thing]):
        raise InvalidPaper("shape", -1)
    if len(thing) != len(checks):
        raise InvalidPaper("many", -1)
    table = failing_table(items, checks)
    for k, (word, told) in enumerate(thing):
        if word == "idle":
            check_rows(table, k, told)
        elif not is_state(items, told) or table[told][:1] != (k,):
            raise InvalidPaper("state", k)
    return tuple([k for k, (word, told) in enumerate(thing) if word == "idle"])


def is_entry(thing):
    """Whether any value is, by shape, an entry of a list paper."""
    if not is_pair(thing):
        return False
    return thing[0] == "first" or thing[0] == "idle" and isinstance(thing[1], tuple)


def check_rows(table, k, rows):
    """Raise InvalidPaper if the rows do not have, for each state in which check k fails, one ahead that does, too."""
    due = [failing for failing in table.values() if k in failing]
    if len(rows) != len(due):
        raise InvalidPaper("rows", k)
    for n, failing in enumerate(due):
        if not is_number(rows[n]) or rows[n] >= k or rows[n] not in failing:
            raise InvalidPaper("ahead", (k, n))
