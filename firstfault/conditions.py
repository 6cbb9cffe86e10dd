"""Numbers and conditions: what is one by form or for items, and which parts stand in it."""

from firstfault.errors import UnfitPart
from firstfault.kinds import is_integer, is_name, is_state, is_state_set

# For each word that has parts behind it: the kind of the whole, and the kinds of these parts.
WORDS = {
    "+": ("number", ("number", "number")),
    "-": ("number", ("number", "number")),
    "*": ("number", ("number", "number")),
    "=": ("condition", ("number", "number")),
    "<": ("condition", ("number", "number")),
    "and": ("condition", ("condition", "condition")),
    "or": ("condition", ("condition", "condition")),
    "not": ("condition", ("condition",)),
}


def is_count(thing):
    """Whether any value is a number, by form."""
    return is_right("number", thing)


def is_condition(thing):
    """Whether any value is a condition, by form."""
    return is_right("condition", thing)


def parts_of(expression):
    """Return the pairs (path, part) of a number or a condition by form, a part before the parts in it."""
    return right_parts("number" if is_count(expression) else "condition", None, expression)


def lets_count(items, thing):
    """Return how many parts a number for the items has; UnfitPart for the first part that is wrong."""
    return len(right_parts("number", items, thing))


def lets_condition(items, thing):
    """Return how many parts a condition for the items has; UnfitPart for the first part that is wrong."""
    return len(right_parts("condition", items, thing))


def is_right(kind, thing):
    """Whether no part of any value is wrong by form, if the whole is to be of this kind."""
    try:
        right_parts(kind, None, thing)
    except UnfitPart:
        return False
    return True


def right_parts(kind, items, thing):
    """Return the pairs (path, part) of what is to be of this kind; UnfitPart for the first part that is wrong.

    Without items, that is with None, only what is wrong by form counts.
    """
    found = []
    # The last one waiting is the next one in order; so the parts in a part are added from behind.
    waiting = [((), kind, thing)]
    while waiting:
        path, due, part = waiting.pop()
        inner = kinds_within(due, part)
        if inner is None or not fits_items(items, part):
            raise UnfitPart(path)
        found.append((path, part))
        for k in reversed(range(len(inner))):
            waiting.append((path + (k + 1,), inner[k], part[k + 1]))
    return tuple(found)


def kinds_within(kind, thing):
    """Return the kinds of the parts right in a part that is to be of this kind; None if it is wrong by form."""
    if is_leaf(kind, thing):
        return ()
    if not isinstance(thing, tuple) or len(thing) < 2 or not isinstance(thing[0], str) or thing[0] not in WORDS:
        return None
    whole, inner = WORDS[thing[0]]
    return inner if whole == kind and len(thing) == 1 + len(inner) else None


def is_leaf(kind, thing):
    """Whether any value is, by form, a part of this kind with no parts in it."""
    if is_integer(thing):
        return kind == "number"
    if not isinstance(thing, tuple) or len(thing) != 2:
        return False
    if kind == "number":
        return thing[0] == "item" and is_name(thing[1])
    return thing[0] == "in" and is_state_set(thing[1])


def fits_items(items, part):
    """Whether the items have what a part, right by form, names behind "item" or "in"; without items it fits."""
    if items is None or is_integer(part):
        return True
    if part[0] == "item":
        return part[1] in [name for name, low, high in items]
    if part[0] == "in":
        return all([is_state(items, state) for state in part[1]])
    return True
