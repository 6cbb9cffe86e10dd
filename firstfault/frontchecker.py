"""The checker of front papers."""

from firstfault.comparing import states_telling, words_told
from firstfault.errors import InvalidPaper
from firstfault.frontpapers import is_late
from firstfault.kinds import is_pair, is_state


def lets_front(program, thing):
    """Return whether a front paper tells that all checks can be put in front; InvalidPaper if it is none."""
    if not has_shape(thing):
        raise InvalidPaper("shape", -1)
    word, told = thing
    if word == "front":
        check_rows(program, told)
    else:
        check_late(program, told)
    return word == "front"


def has_shape(thing):
    """Whether any value is, by shape, a front paper of one of both forms."""
    if not is_pair(thing):
        return False
    if thing[0] == "front":
        return isinstance(thing[1], tuple) and all([is_word_row(row) for row in thing[1]])
    return thing[0] == "late"


def is_word_row(thing):
    """Whether any value is a pair of a string and a tuple."""
    return is_pair(thing) and isinstance(thing[0], str) and isinstance(thing[1], tuple)


def check_rows(program, rows):
    """Raise InvalidPaper if the rows do not have from which states each word is told, with nothing said then."""
    if tuple([word for word, states in rows]) != words_told(program):
        raise InvalidPaper("words", -1)
    for k, (word, states) in enumerate(rows):
        # A state that is no tuple of integers could be equal to one: True is not 1.
        if not all([is_state(program[0], state) for state in states]) or states != states_telling(program, word):
            raise InvalidPaper("states", k)
        if any([is_late(program, state) for state in states]):
            raise InvalidPaper("states", k)


def check_late(program, state):
    """Raise InvalidPaper if the run from any value does not say something and then complain."""
    if not is_state(program[0], state):
        raise InvalidPaper("state", -1)
    if not is_late(program, state):
        raise InvalidPaper("late", -1)
