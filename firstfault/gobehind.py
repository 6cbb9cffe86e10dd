"""Checks that go behind a "set"."""

from firstfault.changes import with_step
from firstfault.errors import NotUsable
from firstfault.keys import check_at, has_key, step_at
from firstfault.running import arrivals
from firstfault.values import holds_in, put_in


def may_go_behind(program, key):
    """Whether the check with this key may go behind the "set" that is the next step."""
    failing, holding = states_behind(program, key)
    return not any([state in holding for state in failing])


def gone_behind(program, key):
    """Return the program in which the check with this key stands behind the next step, None if it may not."""
    if not may_go_behind(program, key):
        return None
    failing, holding = states_behind(program, key)
    check = ("check", step_at(program, key)[1], ("not", ("in", failing)))
    later = key_behind(key)
    return with_step(with_step(program, key, step_at(program, later)), later, check)


def states_behind(program, key):
    """Return two sets of states: what the next step makes of those that come to the check, fail it, and pass it.

    The errors of rows_behind.
    """
    rows = rows_behind(program, key)
    failing = {later for state, later, holds in rows if not holds}
    holding = {later for state, later, holds in rows if holds}
    return tuple(sorted(failing)), tuple(sorted(holding))


def rows_behind(program, key):
    """Return a list with a row (state, later, holds) for each state with which a run comes to the check, ascending.

    later is what the next step makes of it, and holds whether it passes the check. NoCheck if the key is that of
    another step; NotUsable if the next step is no "set", or there is none.
    """
    check = check_at(program, key)
    if not is_set_behind(program, key):
        raise NotUsable("behind", -1)
    items = program[0]
    _, name, count = step_at(program, key_behind(key))
    return [
        (state, put_in(items, state, name, count), holds_in(items, state, check[2]))
        for state in arrivals(program, key)
    ]


def is_set_behind(program, key):
    """Whether the next step behind the one with this key is a "set"."""
    later = key_behind(key)
    return has_key(program, later) and step_at(program, later)[0] == "set"


def key_behind(key):
    """Return what is the key of the next step in the same steps, if there is one."""
    part, path = key
    return part, path[:-1] + (path[-1] + 1,)
