"""Steps that are put for each other in every program, and contexts, which show that they may not be."""

from firstfault.comparing import are_equal, parting_state
from firstfault.running import run


def may_put_for(items, calls, one, other):
    """Whether steps may be put for each other in every program with these items and calls among its own."""
    return are_equal((items, calls, one), (items, calls, other))


def context_program(items, calls, steps, context):
    """Return the program of a context with these steps."""
    state, item = context
    first = tuple([("set", row[0], state[k]) for k, row in enumerate(items)])
    last = () if item is None else (("say", ("item", item)),)
    return items, calls, first + steps + last


def context_paper(items, calls, one, other):
    """Return a context that shows that steps may not be put for each other, None if they may."""
    first = (items, calls, one)
    second = (items, calls, other)
    state = parting_state(first, second, ends=True)
    if state is None:
        return None
    return state, parting_item(items, run(first, state), run(second, state))


def parting_item(items, one, other):
    """Return the first item by whose end two runs, pairs (told, end), part; None if they part by what is told."""
    if one[0] != other[0]:
        return None
    # With the same word, or with none, both runs complain or both end somewhere.
    return [row[0] for k, row in enumerate(items) if one[1][k] != other[1][k]][0]
