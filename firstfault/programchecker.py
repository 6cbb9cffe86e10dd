"""The checker of programs."""

from firstfault.conditions import lets_condition, lets_count
from firstfault.errors import InvalidPaper, UnfitPart
from firstfault.keys import keyed_steps
from firstfault.kinds import is_integer, is_name
from firstfault.steps import STEP_KINDS, is_steps


def lets_program(thing):
    """Return how many steps a program has in all; InvalidPaper for any other value."""
    if not has_shape(thing):
        raise InvalidPaper("shape", -1)
    items, calls, steps = thing
    check_items(items)
    names = [name for name, own in calls]
    for k in range(len(names)):
        if names[k] in names[:k]:
            raise InvalidPaper("call", k)
    many = 0
    for k, (part, own) in enumerate(calls + ((None, steps),)):
        # Behind all calls, that is for the program itself, none is left out.
        many = many + check_part(items, names[:k], part, own)
    return many


def has_shape(thing):
    """Whether any value is a tuple of rows of items, rows of calls and steps, by form."""
    if not isinstance(thing, tuple) or len(thing) != 3:
        return False
    items, calls, steps = thing
    if not isinstance(items, tuple) or not isinstance(calls, tuple):
        return False
    if not all([is_item_row(row) for row in items]):
        return False
    return all([is_call_row(row) for row in calls]) and is_steps(steps)


def is_item_row(thing):
    """Whether any value is a triple of a name and two integers."""
    if not isinstance(thing, tuple) or len(thing) != 3:
        return False
    return is_name(thing[0]) and is_integer(thing[1]) and is_integer(thing[2])


def is_call_row(thing):
    """Whether any value is a pair of a name and steps by form."""
    return isinstance(thing, tuple) and len(thing) == 2 and is_name(thing[0]) and is_steps(thing[1])


def check_items(items):
    """Raise InvalidPaper if there are no items, or for the first that does not ascend or has no values."""
    if not items:
        raise InvalidPaper("items", -1)
    for k, (name, low, high) in enumerate(items):
        if k > 0 and name <= items[k - 1][0] or low > high:
            raise InvalidPaper("item", k)


def check_part(items, known, part, steps):
    """Return how many steps a part has, which may call the known calls; InvalidPaper for the first wrong one."""
    rows = keyed_steps(part, steps)
    for key, step in rows:
        if not names_fit(items, known, step):
            raise InvalidPaper("name", key)
        try:
            check_expression(items, step)
        except UnfitPart:
            raise InvalidPaper("part", key) from None
    return len(rows)


def names_fit(items, known, step):
    """Whether the item that a step sets is there, and the call that it calls among the known ones."""
    if step[0] == "set":
        return step[1] in [name for name, low, high in items]
    return step[0] != "call" or step[1] in known


def check_expression(items, step):
    """Raise UnfitPart if the number or the condition of a step is none for the items."""
    for kind, thing in zip(STEP_KINDS[step[0]], step[1:]):
        if kind == "number":
            lets_count(items, thing)
        elif kind == "condition":
            lets_condition(items, thing)
