"""The events by kind: what stands in them, and what is one."""

from firstfault.keys import is_key
from firstfault.kinds import is_name
from firstfault.steps import is_step, is_steps

# For each word of an event: the kinds of what stands behind it, in order; "keys" are one or more, a place is a key.
EVENT_KINDS = {
    "put": ("key", "step"),
    "take": ("key",),
    "turn": ("key", "step"),
    "come": ("key", "key"),
    "behind": ("key",),
    "drop": ("keys",),
    "lean": (),
    "front": (),
    "call": ("name", "steps"),
}


def is_event(thing):
    """Whether any value is an event by kind."""
    if not isinstance(thing, tuple) or len(thing) == 0:
        return False
    if not isinstance(thing[0], str) or thing[0] not in EVENT_KINDS:
        return False
    kinds = EVENT_KINDS[thing[0]]
    return len(thing) == 1 + len(kinds) and all([is_in_event(kind, thing[k + 1]) for k, kind in enumerate(kinds)])


def is_in_event(kind, thing):
    """Whether any value is of this kind, as it stands in an event."""
    if kind == "key":
        return is_key(thing)
    if kind == "keys":
        return isinstance(thing, tuple) and len(thing) > 0 and all([is_key(key) for key in thing])
    if kind == "name":
        return is_name(thing)
    return is_step(thing) if kind == "step" else is_steps(thing)
