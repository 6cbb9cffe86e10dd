"""Conditions that may replace that of a check in a list."""

from firstfault.conditions import lets_condition
from firstfault.errors import NotUsable
from firstfault.kinds import is_number
from firstfault.lists import failing_table, word_of_first
from firstfault.values import holds_in


def freedom(items, checks, k):
    """Return the sets of states in which the condition of check k must fail, must hold, and is free.

    NotUsable for any value that is no index.
    """
    check_index(checks, k)
    rows = [(state, demand(checks, failing, k)) for state, failing in failing_table(items, checks).items()]
    return tuple([tuple([state for state, due in rows if due == word]) for word in ("fail", "hold", "free")])


def may_replace(items, checks, k, condition):
    """Whether the list with this condition in check k tells the same; NotUsable, then UnfitPart for other values."""
    check_index(checks, k)
    lets_condition(items, condition)
    fail, hold, free = freedom(items, checks, k)
    if any([holds_in(items, state, condition) for state in fail]):
        return False
    return all([holds_in(items, state, condition) for state in hold])


def check_index(checks, thing):
    """Raise NotUsable if any value is no index of the list."""
    if not is_number(thing) or thing >= len(checks):
        raise NotUsable("check", -1)


def demand(checks, failing, k):
    """Return whether the condition of check k must fail, must hold or is free in a state in which these checks fail."""
    told = word_of_first(checks, failing)
    others = [n for n in failing if n != k]
    if word_of_first(checks, others) != told:
        return "fail"
    return "hold" if word_of_first(checks, sorted(others + [k])) != told else "free"
