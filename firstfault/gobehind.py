"""Checks that go behind a "set"."""

from firstfault.changes import with_step
from firstfault.errors import NotUsable
from firstfault.keys import check_at, has_key, step_at
from firstfault.running import arrivals
from firstfault.values import holds_in, put_in


def may_go_behind(program, key):
    """Whether the check with this key may go behind the "set" that is the next step."""
    failing, holding = states_behind(program, key)
    return not any([state in holding for state in failing])


def gone_behind(program, key):
    """Return the program in which the check with this key stands behind the next step, None if it may not."""
    if not may_go_behind(program, key):
        return None
    failing, holding = states_behind(program, key)
    check = ("check", step_at(program, key)[1], ("not", ("in", failing)))
    later = key_behind(key)
    return with_step(with_step(program, key, step_at(program, later)), later, check)


def states_behind(program, key):
    """Return two sets of states: what the next step makes of those that come to the check, fail it, and pass it.

    NoCheck if it is none; NotUsable if the next step is no "set", or there is none.
    """
    check = check_at(program, key)
    put = set_behind(program, key)
    items = program[0]
    came = arrivals(program, key)
    failing = {put_in(items, state, put[1], put[2]) for state in came if not holds_in(items, state, check[2])}
    holding = {put_in(items, state, put[1], put[2]) for state in came if holds_in(items, state, check[2])}
    return tuple(sorted(failing)), tuple(sorted(holding))


def set_behind(program, key):
    """Return the "set" right behind a check; NotUsable if something else is there, or nothing."""
    later = key_behind(key)
    if not has_key(program, later) or step_at(program, later)[0] != "set":
        raise NotUsable("behind", -1)
    return step_at(program, later)


def key_behind(key):
    """Return what is the key of the next step in the same steps, if there is one."""
    part, path = key
    return part, path[:-1] + (path[-1] + 1,)
