"""Alike papers: what two programs tell from each state, or a state that parts them."""

from firstfault.comparing import parting_state
from firstfault.running import run, states_of


def alike_paper(one, other):
    """Return an alike paper of two programs; NotUsable if they are not over the same items."""
    parting = parting_state(one, other)
    if parting is not None:
        return "parted", parting
    items = one[0]
    return "alike", tuple([run(one, state)[0] for state in states_of(items)])
