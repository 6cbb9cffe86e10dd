"""The checker of behind papers."""

from firstfault.errors import InvalidPaper
from firstfault.gobehind import rows_behind
from firstfault.kinds import is_pair, is_this_state


def lets_behind(program, key, thing):
    """Return whether a behind paper tells that the check may go behind the "set"; InvalidPaper if it is none."""
    due = rows_behind(program, key)
    if not has_shape(thing):
        raise InvalidPaper("shape", -1)
    items = program[0]
    if thing[0] == "goes":
        check_rows(items, due, thing[1])
        check_apart(due)
    else:
        check_same(items, due, thing[1], thing[2])
    return thing[0] == "goes"


def has_shape(thing):
    """Whether any value is, by shape, a behind paper of one of both forms."""
    if is_pair(thing):
        return thing[0] == "goes" and isinstance(thing[1], tuple) and all([is_pair(row) for row in thing[1]])
    return isinstance(thing, tuple) and len(thing) == 3 and thing[0] == "same"


def check_rows(items, due, rows):
    """Raise InvalidPaper if the rows do not have what becomes of each state that comes to the check."""
    if len(rows) != len(due):
        raise InvalidPaper("many", -1)
    for k, (state, later, holds) in enumerate(due):
        if not is_this_state(items, rows[k][0], state):
            raise InvalidPaper("state", k)
        if not is_this_state(items, rows[k][1], later):
            raise InvalidPaper("later", k)


def check_apart(due):
    """Raise InvalidPaper for the first state that becomes what one before it does, where only one passes the check."""
    for k, (state, later, holds) in enumerate(due):
        if (later, not holds) in [(there, passed) for one, there, passed in due[:k]]:
            raise InvalidPaper("same", k)


def check_same(items, due, one, other):
    """Raise InvalidPaper if two values are no states that the "set" makes the same, one failing and other not."""
    failing = [later for state, later, holds in due if not holds and is_this_state(items, one, state)]
    if not failing:
        raise InvalidPaper("one", -1)
    holding = [later for state, later, holds in due if holds and is_this_state(items, other, state)]
    if not holding:
        raise InvalidPaper("other", -1)
    if failing != holding:
        raise InvalidPaper("later", -1)
