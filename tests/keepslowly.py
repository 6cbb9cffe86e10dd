"""Keep papers, looked at in another way than the package does."""

from listmakers import slow_words, some_of
from makers import all_states


def slow_keep(items, checks, thing):
    """Return what lets_keep has to return for any value, or the fields (word, at) of what it has to raise."""
    if not isinstance(thing, tuple) or len(thing) != 2 or not is_numbers(thing[0]) or not is_node(thing[1]):
        return "shape", -1
    kept, tree = thing
    for k, number in enumerate(kept):
        if number >= len(checks) or k > 0 and number <= kept[k - 1]:
            return "kept", k
    words = slow_words(items, checks)
    for state, one, other in zip(all_states(items), slow_words(items, some_of(checks, kept)), words):
        if one != other:
            return "parts", state
    return slow_node(items, checks, len(kept), tree, (), (), ()) or len(kept)


def is_numbers(thing, least=0):
    return isinstance(thing, tuple) and all([is_number(part, least) for part in thing])


def is_number(thing, least=0):
    return isinstance(thing, int) and not isinstance(thing, bool) and (least is None or thing >= least)


def is_node(thing):
    if thing is None:
        return True
    if not isinstance(thing, tuple) or not thing or not isinstance(thing[0], str):
        return False
    if thing[0] == "state":
        return len(thing) == 2 and is_numbers(thing[1], None)
    return thing[0] == "both" and len(thing) == 4 and is_number(thing[1]) and is_node(thing[2]) and is_node(thing[3])


def slow_node(items, checks, many, node, kept, gone, path):
    """Return what is wrong with a node, or in it, as (word, path), or None."""
    if (node is None) != (len(kept) == many):
        return "many", path
    if node is None:
        return None
    if node[0] == "state":
        right = node[1] in all_states(items) and is_lost_in_all(items, checks, node[1], kept, gone)
        return None if right else ("state", path)
    _, k, one, other = node
    if k >= len(checks) or k in kept + gone:
        return "check", path
    wrong = slow_node(items, checks, many, one, kept + (k,), gone, path + (0,))
    return wrong or slow_node(items, checks, many, other, kept, gone + (k,), path + (1,))


def is_lost_in_all(items, checks, state, kept, gone):
    """Whether the list tells something else in the state, however the other checks are decided."""
    n = all_states(items).index(state)
    told = slow_words(items, checks)[n]
    rows = [tuple(kept)]
    for k in range(len(checks)):
        if k not in kept + gone:
            rows = rows + [row + (k,) for row in rows]
    return all([slow_words(items, some_of(checks, sorted(row)))[n] != told for row in rows])
