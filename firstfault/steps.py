"""Steps: what is one by form, and which steps stand within one."""

from firstfault.conditions import is_condition, is_count
from firstfault.kinds import is_name


def is_step(thing):
    """Whether any value is a step, by form."""
    return is_steps((thing,))


def is_steps(thing):
    """Whether any value is a tuple of steps, by form."""
    waiting = [thing]
    while waiting:
        steps = waiting.pop()
        if not isinstance(steps, tuple):
            return False
        for step in steps:
            if not is_step_outline(step):
                return False
            waiting.extend(steps_within(step))
    return True


def is_step_outline(thing):
    """Whether any value is a step by form, whatever stands where the steps within it are due."""
    if not isinstance(thing, tuple) or len(thing) == 0:
        return False
    word = thing[0]
    if word == "check":
        return len(thing) == 3 and is_name(thing[1]) and is_condition(thing[2])
    if word == "say":
        return len(thing) == 2 and is_count(thing[1])
    if word == "set":
        return len(thing) == 3 and is_name(thing[1]) and is_count(thing[2])
    if word == "if":
        return len(thing) == 4 and is_condition(thing[1])
    if word == "repeat":
        return len(thing) == 3 and is_count(thing[1])
    return word == "call" and len(thing) == 2 and is_name(thing[1])


def steps_within(step):
    """Return the steps that stand right in a step: first and second ones, first ones only, or none."""
    return step[2:] if step[0] in ("if", "repeat") else ()
