"""Steps: what is one by form, and which steps stand within one."""

from firstfault.conditions import is_condition, is_count
from firstfault.kinds import is_name

# For each word of a step: the kinds of what stands behind it, in order.
STEP_KINDS = {
    "check": ("name", "condition"),
    "say": ("number",),
    "set": ("name", "number"),
    "if": ("condition", "steps", "steps"),
    "repeat": ("number", "steps"),
    "call": ("name",),
}


def is_step(thing):
    """Whether any value is a step, by form."""
    return is_steps((thing,))


def is_steps(thing):
    """Whether any value is a tuple of steps, by form."""
    waiting = [thing]
    while waiting:
        steps = waiting.pop()
        if not isinstance(steps, tuple):
            return False
        for step in steps:
            if not is_step_outline(step):
                return False
            waiting.extend(steps_within(step))
    return True


def is_step_outline(thing):
    """Whether any value is a step by form, whatever stands where the steps within it are due."""
    if not isinstance(thing, tuple) or len(thing) == 0 or not isinstance(thing[0], str) or thing[0] not in STEP_KINDS:
        return False
    kinds = STEP_KINDS[thing[0]]
    return len(thing) == 1 + len(kinds) and all([is_of_kind(kind, thing[k + 1]) for k, kind in enumerate(kinds)])


def is_of_kind(kind, thing):
    """Whether any value is of this kind by form; any value for steps."""
    if kind == "name":
        return is_name(thing)
    if kind == "number":
        return is_count(thing)
    return kind == "steps" or is_condition(thing)


def steps_within(step):
    """Return the steps that stand right in a step: first and second ones, first ones only, or none."""
    return step[2:] if step[0] in ("if", "repeat") else ()
