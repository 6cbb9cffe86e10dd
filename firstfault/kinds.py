"""Kinds of plain values: integers, numbers, names, states, tuples of integers, pairs, and what is told by shape."""

LETTERS = "abcdefghijklmnopqrstuvwxyz"
LONGEST_NAME = 8


def is_integer(thing):
    """Whether any value is an integer."""
    # A bool is an int for Python, but True is not 1 here.
    return isinstance(thing, int) and not isinstance(thing, bool)


def is_number(thing):
    """Whether any value is an integer that is at least 0."""
    return is_integer(thing) and thing >= 0


def is_name(thing):
    """Whether any value is a name."""
    if not isinstance(thing, str) or not 1 <= len(thing) <= LONGEST_NAME:
        return False
    return all([letter in LETTERS for letter in thing])


def is_state(items, thing):
    """Whether any value is a state of the items."""
    if not isinstance(thing, tuple) or len(thing) != len(items):
        return False
    return all([is_integer(thing[k]) and low <= thing[k] <= high for k, (name, low, high) in enumerate(items)])


def is_this_state(items, thing, state):
    """Whether any value is this very state of the items; it is not if there is None."""
    return is_state(items, thing) and thing == state


def is_integer_tuple(thing):
    """Whether any value is a tuple of integers, possibly empty."""
    return isinstance(thing, tuple) and all([is_integer(part) for part in thing])


def is_number_tuple(thing):
    """Whether any value is a tuple of numbers, possibly empty."""
    return isinstance(thing, tuple) and all([is_number(part) for part in thing])


def is_pair(thing):
    """Whether any value is a tuple of two."""
    return isinstance(thing, tuple) and len(thing) == 2


def is_integers_with_word(thing):
    """Whether any value is a pair of a tuple of integers and a string or None, as what is told and a context are."""
    return is_pair(thing) and is_integer_tuple(thing[0]) and (thing[1] is None or isinstance(thing[1], str))


def is_state_set(thing):
    """Whether any value is, by form, what may stand behind "in"."""
    if not isinstance(thing, tuple):
        return False
    # Only tuples of integers can be compared without asking what they hold.
    if not all([is_integer_tuple(row) and len(row) > 0 for row in thing]):
        return False
    return all([thing[k] < thing[k + 1] for k in range(len(thing) - 1)])
