"""The events by kind: what stands in them."""

# For each word of an event: the kinds of what stands behind it, in order; "keys" are one or more, a place is a key.
EVENT_KINDS = {
    "put": ("key", "step"),
    "take": ("key",),
    "turn": ("key", "step"),
    "come": ("key", "key"),
    "behind": ("key",),
    "drop": ("keys",),
    "lean": (),
    "front": (),
    "call": ("name", "steps"),
}
