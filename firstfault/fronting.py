"""All checks put in front."""

from firstfault.comparing import are_equal, states_telling, words_told
from firstfault.dropping import checks_of, dropped


def may_front(program):
    """Whether the front form of a program is equal to it."""
    return are_equal(program, front_form(program))


def fronted(program):
    """Return the front form of a program if it is equal to it, otherwise None."""
    form = front_form(program)
    return form if are_equal(program, form) else None


def fewest_at_all(program):
    """Return how many checks an alike program has at least; None if the program is not equal to its front form."""
    return len(words_told(program)) if may_front(program) else None


def front_form(program):
    """Return the program with a check for each word that is told ahead of its steps, and without its own checks."""
    keys = checks_of(program)
    items, calls, steps = dropped(program, *keys)
    words = words_told(program)
    first = tuple([("check", word, ("not", ("in", states_telling(program, word)))) for word in words])
    return items, calls, first + steps
