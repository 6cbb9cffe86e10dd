"""Keys of the steps of a program, and the steps that they reach."""

from firstfault.errors import NoCheck, UnknownKey
from firstfault.kinds import is_name, is_number_tuple
from firstfault.steps import steps_within


def all_keys(program):
    """Return the keys of all steps: those of the calls, then those of the program, a step before those in it."""
    _, calls, steps = program
    found = []
    for part, own in calls + ((None, steps),):
        found.extend([key for key, step in keyed_steps(part, own)])
    return tuple(found)


def step_at(program, key):
    """Return the step with this key; UnknownKey for any value that is no key of the program."""
    if not has_key(program, key):
        raise UnknownKey(key)
    return steps_around(program, key)[key[1][-1]]


def check_at(program, key):
    """Return the check with this key; UnknownKey for any value that is no key, NoCheck for that of another step."""
    step = step_at(program, key)
    if step[0] != "check":
        raise NoCheck(key)
    return step


def is_outside(program, key):
    """Whether the step with this key is outside: one of the program itself, within no "repeat"."""
    part, path = key
    around = [step_at(program, (part, path[:k]))[0] for k in range(1, len(path), 2)]
    return part is None and "repeat" not in around


def has_key(program, key):
    """Whether any value is the key of a step of the program."""
    steps = steps_around(program, key)
    return steps is not None and key[1][-1] < len(steps)


def keyed_steps(part, steps):
    """Return the list of the pairs (key, step) for all steps of a part, a step before the steps in it."""
    found = []
    # The last one waiting is the next one in order; so steps are added from behind.
    waiting = [((k,), steps[k]) for k in reversed(range(len(steps)))]
    while waiting:
        path, step = waiting.pop()
        found.append(((part, path), step))
        inner = steps_within(step)
        for j in reversed(range(len(inner))):
            for k in reversed(range(len(inner[j]))):
                waiting.append((path + (j, k), inner[j][k]))
    return found


def steps_around(program, place):
    """Return the steps in which a key, or the place right behind the last of them, lies.

    None for any other value.
    """
    if not is_key(place):
        return None
    part, path = place
    # Between the indexes of steps stand those that tell first or second steps.
    if len(path) % 2 == 0:
        return None
    steps = steps_of_part(program, part)
    for k in range(0, len(path) - 1, 2):
        steps = steps_inside(steps, path[k], path[k + 1])
    return None if steps is None or path[-1] > len(steps) else steps


def is_key(thing):
    """Whether any value is a key by form: a pair of None or a name and a nonempty tuple of numbers."""
    if not isinstance(thing, tuple) or len(thing) != 2:
        return False
    part, path = thing
    if not (part is None or is_name(part)):
        return False
    return is_number_tuple(path) and len(path) > 0


def steps_of_part(program, part):
    """Return the steps of the program, for None, or of the call with this name; None if there is none."""
    _, calls, steps = program
    if part is None:
        return steps
    for name, own in calls:
        if name == part:
            return own
    return None


def steps_inside(steps, k, j):
    """Return the first (0) or second (1) steps j within step k of the steps; None if there are none."""
    if steps is None or k >= len(steps):
        return None
    inner = steps_within(steps[k])
    return inner[j] if j < len(inner) else None
