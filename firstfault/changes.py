"""Programs with one step changed, taken out or put in."""

from firstfault.errors import UnknownKey
from firstfault.keys import step_at, steps_around
from firstfault.programchecker import lets_program
from firstfault.steps import steps_within


def with_step(program, key, step):
    """Return the program with step in place of the one with this key."""
    step_at(program, key)
    return let_in(spliced(program, key, 1, (step,)))


def without_step(program, key):
    """Return the program without the step with this key, and without the steps in it."""
    step_at(program, key)
    return let_in(spliced(program, key, 1, ()))


def with_step_ahead(program, place, step):
    """Return the program with step put ahead of the place, a key or right behind the last of any steps."""
    if steps_around(program, place) is None:
        raise UnknownKey(place)
    return let_in(spliced(program, place, 0, (step,)))


def let_in(program):
    """Return what is to be a program; InvalidPaper if it is none."""
    lets_program(program)
    return program


def spliced(program, place, many, new):
    """Return the program with as many steps as told, from the place on, taken out and the new ones put there."""
    items, calls, steps = program
    part, path = place
    if part is None:
        return items, calls, spliced_steps(steps, path, many, new)
    rows = [(name, spliced_steps(own, path, many, new) if name == part else own) for name, own in calls]
    return items, tuple(rows), steps


def spliced_steps(steps, path, many, new):
    """Return the steps with as many, from the path on, taken out and the new ones put there."""
    k = path[0]
    if len(path) == 1:
        return steps[:k] + new + steps[k + many:]
    step = steps[k]
    j = path[1]
    inner = spliced_steps(steps_within(step)[j], path[2:], many, new)
    # The steps within a step stand last in it, from index 2 on.
    return steps[:k] + (step[:2 + j] + (inner,) + step[3 + j:],) + steps[k + 1:]
