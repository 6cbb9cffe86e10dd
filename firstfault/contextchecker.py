"""The checker of contexts."""

from firstfault.contexts import context_program
from firstfault.errors import InvalidPaper
from firstfault.kinds import is_integers_with_word, is_state
from firstfault.running import run


def lets_context(items, calls, one, other, thing):
    """Return what is told by the programs of a context with one and with other; InvalidPaper if it shows nothing."""
    if not is_integers_with_word(thing):
        raise InvalidPaper("shape", -1)
    state, item = thing
    if not is_state(items, state):
        raise InvalidPaper("state", -1)
    if item is not None and item not in [row[0] for row in items]:
        raise InvalidPaper("item", -1)
    # The program sets each item at first; so what it tells hangs on no state.
    told = run(context_program(items, calls, one, thing), state)[0]
    other_told = run(context_program(items, calls, other, thing), state)[0]
    if told == other_told:
        raise InvalidPaper("same", -1)
    return told, other_told
