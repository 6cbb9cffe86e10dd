"""The checker of come papers."""

from firstfault.coming import check_usable, quiet_arrival
from firstfault.errors import InvalidPaper
from firstfault.kinds import is_pair, is_state, is_this_state
from firstfault.running import complained_by, complaints_by


def lets_come(program, key, place, thing):
    """Return whether a come paper tells that the check may come to the place; InvalidPaper if it is none."""
    check_usable(program, key, place)
    if not has_shape(thing):
        raise InvalidPaper("shape", -1)
    word, told = thing
    if word == "comes":
        check_rows(program, key, place, told)
    else:
        check_bar(program, key, place, told)
    return word == "comes"


def has_shape(thing):
    """Whether any value is, by shape, a come paper of one of both forms."""
    if not is_pair(thing):
        return False
    if thing[0] == "comes":
        return isinstance(thing[1], tuple) and all([is_pair(row) for row in thing[1]])
    return thing[0] == "bars"


def check_rows(program, key, place, rows):
    """Raise InvalidPaper if the rows do not have with which state each run that complains comes to the place."""
    states = complaints_by(program, key)
    if len(rows) != len(states):
        raise InvalidPaper("many", -1)
    for k, state in enumerate(states):
        if not is_this_state(program[0], rows[k][0], state):
            raise InvalidPaper("state", k)
        if not is_this_state(program[0], rows[k][1], quiet_arrival(program, state, place)):
            raise InvalidPaper("at", k)


def check_bar(program, key, place, state):
    """Raise InvalidPaper if the run from any value does not show that the check may not come to the place."""
    if not is_state(program[0], state) or complained_by(program, state) != key:
        raise InvalidPaper("state", -1)
    if quiet_arrival(program, state, place) is not None:
        raise InvalidPaper("comes", -1)
