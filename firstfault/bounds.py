"""Plain conditions: bounds of items, and the fewest that tell states apart."""

from firstfault.choosing import fewest_sets
from firstfault.freedoms import freedom
from firstfault.values import item_place


def fewest_bounds(items, fail, hold):
    """Return all sets of bounds of the hull with the fewest bounds that do for fail and hold; None if none does."""
    # In all states of hold each bound of the hull is true.
    return fewest_sets(hull(items, hold), lambda bounds: not states_within(items, bounds, fail))


def bar_state(items, fail, hold):
    """Return the least state of fail in which all bounds of the hull of hold are true, None if there is none."""
    within = states_within(items, hull(items, hold), fail)
    return within[0] if within else None


def bounds_condition(bounds):
    """Return a condition that is true if and only if all of the bounds are."""
    condition = ("=", 0, 0)
    for k, bound in enumerate(bounds):
        plain = bound_condition(bound)
        condition = plain if k == 0 else ("and", condition, plain)
    return condition


def fewest_plain(items, checks, k):
    """Return all sets with the fewest bounds that may replace the condition of check k; None if none may.

    NotUsable for any value that is no index.
    """
    fail, hold, free = freedom(items, checks, k)
    return fewest_bounds(items, fail, hold)


def hull(items, hold):
    """Return the ascending tuple of the two bounds of each item that are true in all states of hold."""
    found = ()
    for k, (name, low, high) in enumerate(items):
        # Without a state no integer of the item is within.
        least = min([state[k] for state in hold], default=high + 1)
        most = max([state[k] for state in hold], default=low - 1)
        found = found + ((name, "least", least), (name, "most", most))
    return found


def states_within(items, bounds, states):
    """Return the list of the states in which all of the bounds are true."""
    return [state for state in states if all([is_within(items, bound, state) for bound in bounds])]


def is_within(items, bound, state):
    """Whether a bound is true in a state."""
    name, word, number = bound
    own = state[item_place(items, name)]
    return own >= number if word == "least" else own <= number


def bound_condition(bound):
    """Return a condition that is true if and only if the bound is."""
    name, word, number = bound
    return ("<", number - 1, ("item", name)) if word == "least" else ("<", ("item", name), number + 1)
