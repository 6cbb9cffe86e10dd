"""The checker of keep papers."""

from firstfault.errors import InvalidPaper
from firstfault.keeping import is_lost, is_next_index
from firstfault.kinds import is_integer_tuple, is_number, is_number_tuple, is_pair, is_state
from firstfault.lists import failing_in, failing_table, parted_with


def lets_keep(items, checks, thing):
    """Return how many checks a keep paper of a list keeps; InvalidPaper if it is none."""
    if not is_pair(thing) or not is_number_tuple(thing[0]) or not is_tree(thing[1]):
        raise InvalidPaper("shape", -1)
    kept, tree = thing
    check_kept(items, checks, kept)
    check_tree(items, checks, len(kept), tree)
    return len(kept)


def is_tree(thing):
    """Whether any value is a node by shape, with all nodes in it."""
    waiting = [thing]
    while waiting:
        node = waiting.pop()
        if not is_node_outline(node):
            return False
        if node is not None and node[0] == "both":
            waiting.extend(node[2:])
    return True


def is_node_outline(thing):
    """Whether any value is a node by shape, whatever stands where the nodes in it are due."""
    if thing is None:
        return True
    if is_pair(thing):
        return thing[0] == "state" and is_integer_tuple(thing[1])
    return isinstance(thing, tuple) and len(thing) == 4 and thing[0] == "both" and is_number(thing[1])


def check_kept(items, checks, kept):
    """Raise InvalidPaper if a tuple of numbers is no set of indexes, or is not enough."""
    for k in range(len(kept)):
        if not is_next_index(checks, kept, k):
            raise InvalidPaper("kept", k)
    state = parted_with(checks, failing_table(items, checks), kept)
    if state is not None:
        raise InvalidPaper("parts", state)


def check_tree(items, checks, many, tree):
    """Raise InvalidPaper for the first node that is wrong, in a tree that is to show that fewer are not enough."""
    # The last one waiting is the next one in order: a node, its path, the checks kept at it, and those dropped.
    waiting = [(tree, (), (), ())]
    while waiting:
        node, path, kept, gone = waiting.pop()
        if (node is None) != (len(kept) == many):
            raise InvalidPaper("many", path)
        if node is not None and not is_right_node(items, checks, node, kept, gone):
            raise InvalidPaper("state" if node[0] == "state" else "check", path)
        if node is not None and node[0] == "both":
            _, k, one, other = node
            waiting.append((other, path + (1,), kept, gone + (k,)))
            waiting.append((one, path + (0,), kept + (k,), gone))


def is_right_node(items, checks, node, kept, gone):
    """Whether a node by shape, not None, is right where these checks are kept and those gone are dropped."""
    if node[0] == "state":
        return is_state(items, node[1]) and is_lost(checks, failing_in(items, checks, node[1]), kept, gone)
    return node[1] < len(checks) and node[1] not in kept + gone
