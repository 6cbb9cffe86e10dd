"""The checker of alike papers."""

from firstfault.comparing import check_same_items
from firstfault.errors import InvalidPaper
from firstfault.kinds import is_integer_tuple, is_integers_with_word, is_pair, is_state
from firstfault.running import run, states_of


def lets_alike(one, other, thing):
    """Return whether an alike paper of two programs tells that they are alike; InvalidPaper if it is none."""
    check_same_items(one, other)
    if not has_shape(thing):
        raise InvalidPaper("shape", -1)
    word, told = thing
    if word == "alike":
        check_rows(one, other, told)
    else:
        check_parted(one, other, told)
    return word == "alike"


def has_shape(thing):
    """Whether any value is, by shape, an alike paper of one of both forms."""
    if not is_pair(thing):
        return False
    if thing[0] == "alike":
        return isinstance(thing[1], tuple) and all([is_integers_with_word(row) for row in thing[1]])
    return thing[0] == "parted" and is_integer_tuple(thing[1])


def check_rows(one, other, rows):
    """Raise InvalidPaper if the rows are not what both programs tell from each state."""
    items = one[0]
    states = list(states_of(items))
    if len(rows) != len(states):
        raise InvalidPaper("many", -1)
    for n, state in enumerate(states):
        if run(one, state)[0] != rows[n] or run(other, state)[0] != rows[n]:
            raise InvalidPaper("row", n)


def check_parted(one, other, state):
    """Raise InvalidPaper if the tuple of integers is no state that parts both programs."""
    if not is_state(one[0], state):
        raise InvalidPaper("state", -1)
    if run(one, state)[0] == run(other, state)[0]:
        raise InvalidPaper("same", -1)
