"""The values of numbers and conditions in a state, and the state behind a "set"."""

from firstfault.kinds import is_integer


def value_in(items, state, count):
    """Return the value that a number for the items has in a state."""
    if is_integer(count):
        return count
    word = count[0]
    if word == "item":
        return state[item_place(items, count[1])]
    left = value_in(items, state, count[1])
    right = value_in(items, state, count[2])
    if word == "+":
        return left + right
    return left - right if word == "-" else left * right


def holds_in(items, state, condition):
    """Whether a condition for the items is true in a state."""
    word = condition[0]
    if word == "in":
        return state in condition[1]
    if word == "not":
        return not holds_in(items, state, condition[1])
    if word == "and":
        return holds_in(items, state, condition[1]) and holds_in(items, state, condition[2])
    if word == "or":
        return holds_in(items, state, condition[1]) or holds_in(items, state, condition[2])
    left = value_in(items, state, condition[1])
    right = value_in(items, state, condition[2])
    return left == right if word == "=" else left < right


def put_in(items, state, name, count):
    """Return the state behind a "set" of the item with this name to a number for the items."""
    k = item_place(items, name)
    _, low, high = items[k]
    nearest = min(max(value_in(items, state, count), low), high)
    return state[:k] + (nearest,) + state[k + 1:]


def item_place(items, name):
    """Return the index of the item with this name."""
    return [row[0] for row in items].index(name)
