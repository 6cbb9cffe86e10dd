"""Lists of checks: what they tell in each state, and which checks of them are idle."""

from firstfault.errors import InvalidState
from firstfault.kinds import is_state
from firstfault.running import states_of
from firstfault.values import holds_in


def first_failing(items, checks, state):
    """Return the index of the first check that fails in a state, None if none does; InvalidState for other values."""
    if not is_state(items, state):
        raise InvalidState(state)
    failing = failing_in(items, checks, state)
    return failing[0] if failing else None


def regions(items, checks):
    """Return the tuple of the regions of the checks: the sets of the states in which each is the first that fails."""
    table = failing_table(items, checks)
    return tuple([region_in(table, k) for k in range(len(checks))])


def words_of_list(items, checks):
    """Return the set of the words that are told in some state."""
    table = failing_table(items, checks)
    found = {checks[failing[0]][1] for failing in table.values() if failing}
    return tuple(sorted(found))


def idle_checks(items, checks):
    """Return the set of the indexes of all idle checks."""
    return tuple([k for k, region in enumerate(regions(items, checks)) if not region])


def least_list(items, checks):
    """Return the list without its idle checks."""
    idle = idle_checks(items, checks)
    return tuple([check for k, check in enumerate(checks) if k not in idle])


def failing_in(items, checks, state):
    """Return the set of the indexes of all checks that fail in a state."""
    return tuple([k for k, (_, word, condition) in enumerate(checks) if not holds_in(items, state, condition)])


def failing_table(items, checks):
    """Return a dict with the set of the indexes of all checks that fail in each state, ascending."""
    return {state: failing_in(items, checks, state) for state in states_of(items)}


def region_in(table, k):
    """Return the region of check k, from the table of what fails in each state."""
    return tuple([state for state, failing in table.items() if failing[:1] == (k,)])


def word_of_first(checks, indexes):
    """Return the word of the check with the first of the indexes, None without any."""
    return checks[indexes[0]][1] if len(indexes) > 0 else None


def tells_with(checks, table, chosen):
    """Whether the list of the checks with the chosen indexes alone, in this order, tells the same.

    table has what fails in each state.
    """
    return parted_with(checks, table, chosen) is None


def parted_with(checks, table, chosen):
    """Return the first state in which the list of the chosen checks tells something else, None if there is none."""
    for state, failing in table.items():
        left = [k for k in chosen if k in failing]
        if word_of_first(checks, left) != word_of_first(checks, failing):
            return state
    return None
