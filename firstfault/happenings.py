"""What an event makes of a program, and for which reason it is not possible."""

from firstfault.changes import with_step, with_step_ahead, without_step
from firstfault.coming import come
from firstfault.dropping import checks_of, dropped, fewest_checks
from firstfault.errors import InvalidPaper
from firstfault.fronting import fronted
from firstfault.gobehind import gone_behind, is_set_behind
from firstfault.keys import all_keys, has_key, is_outside, step_at, steps_around
from firstfault.programchecker import lets_program
from firstfault.running import run, states_of

# For each word of an event: the reasons to look for, in order, before the program behind it is made, and the reason
# if there is none.
REASONS = {
    "put": (("place",), "program"),
    "take": (("key",), None),
    "turn": (("key",), "program"),
    "come": (("key", "check", "place"), "may"),
    "behind": (("key", "check", "place"), "may"),
    "drop": (("key", "check"), None),
    "lean": ((), "same"),
    "front": ((), "may"),
    "call": (("name",), "program"),
}


def promise_of(program):
    """Return the tuple of the pairs (state, told) for all states, ascending."""
    items = program[0]
    return tuple([(state, run(program, state)[0]) for state in states_of(items)])


def parted_state(promise, program):
    """Return the least state from which a program tells something else than was promised, None if there is none."""
    parted = [state for state, told in promise if run(program, state)[0] != told]
    return parted[0] if parted else None


def is_within_limits(program, limits):
    """Whether a program has at most so many steps in all, checks and calls."""
    many = (len(all_keys(program)), len(checks_of(program)), len(program[1]))
    return all([many[k] <= limit for k, limit in enumerate(limits)])


def outcome(program, promise, limits, event):
    """Return the pair of the reason for which an event by kind is not possible, or None, and the program behind it.

    The latter is None where the reason comes before it can be made.
    """
    ahead, otherwise = REASONS[event[0]]
    for reason in ahead:
        if is_barred(reason, program, event):
            return reason, None
    later = program_behind(program, event)
    if later is None:
        return otherwise, None
    # Only what an event brings in can be too many, and what it changes freely can tell something else.
    if not is_within_limits(later, limits):
        return "many", later
    if parted_state(promise, later) is not None:
        return "parts", later
    return None, later


def is_barred(reason, program, event):
    """Whether an event by kind is not possible for this reason, one of those that come before the program behind."""
    if reason == "key":
        keys = keys_of(event)
        return any([not has_key(program, key) or key in keys[:k] for k, key in enumerate(keys)])
    if reason == "check":
        return any([step_at(program, key)[0] != "check" for key in keys_of(event)])
    if reason == "place":
        return not has_place(program, event)
    return event[1] in [name for name, own in program[1]]


def keys_of(event):
    """Return the tuple of the keys of the steps that an event takes, turns, drops or brings elsewhere."""
    return event[1] if event[0] == "drop" else (event[1],)


def has_place(program, event):
    """Whether a program has the place to which an event puts a step, or brings a check."""
    if event[0] == "put":
        return steps_around(program, event[1]) is not None
    if event[0] == "come":
        return has_key(program, event[2]) and is_outside(program, event[2])
    return is_set_behind(program, event[1])


def program_behind(program, event):
    """Return the program behind an event that no earlier reason bars; None if there is none."""
    word = event[0]
    if word == "take":
        return without_step(program, event[1])
    if word == "come":
        return come(program, event[1], event[2])
    if word == "behind":
        return gone_behind(program, event[1])
    if word == "drop":
        keys = event[1]
        return dropped(program, *keys)
    if word == "lean":
        return leaned(program)
    if word == "front":
        return fronted(program)
    return program_with(program, event)


def leaned(program):
    """Return the program with the first of the fewest checks alone; None if these are all of them."""
    kept = fewest_checks(program)[0]
    others = tuple([key for key in checks_of(program) if key not in kept])
    return dropped(program, *others) if others else None


def program_with(program, event):
    """Return the program with what an event puts, turns or calls; None if it is no program then."""
    try:
        if event[0] == "put":
            return with_step_ahead(program, event[1], event[2])
        if event[0] == "turn":
            return with_step(program, event[1], event[2])
        items, calls, steps = program
        longer = (items, calls + ((event[1], event[2]),), steps)
        lets_program(longer)
    except InvalidPaper:
        return None
    return longer
