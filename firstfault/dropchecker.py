"""The checker of drop papers."""

from firstfault.dropping import checks_of, may_drop
from firstfault.errors import InvalidPaper
from firstfault.keys import has_key, step_at
from firstfault.kinds import is_pair, is_state
from firstfault.tolds import is_parted, told_table


def lets_drop(program, thing):
    """Return how many checks a drop paper of a program keeps; InvalidPaper if it is none."""
    if not is_pair(thing) or not isinstance(thing[0], tuple):
        raise InvalidPaper("shape", -1)
    kept, tree = thing
    keys = checks_of(program)
    if not is_set_of_keys(program, keys, kept):
        raise InvalidPaper("kept", -1)
    others = [key for key in keys if key not in kept]
    if not may_drop(program, *others):
        raise InvalidPaper("alike", -1)
    check_tree(program, len(kept), tree)
    return len(kept)


def is_set_of_keys(program, keys, thing):
    """Whether a tuple of any values is a set of some of these keys of the program, in their order."""
    if not all([has_key(program, part) and part in keys for part in thing]):
        return False
    places = [keys.index(key) for key in thing]
    return all([places[k] < places[k + 1] for k in range(len(places) - 1)])


def check_tree(program, many, tree):
    """Raise InvalidPaper for the first node that is wrong, in a tree that is to show that fewer are not enough."""
    table = told_table(program)
    n = 0
    # The last one waiting is the next one in order: a node, the checks that are kept at it, and those dropped.
    waiting = [(tree, (), ())]
    while waiting:
        node, taken, gone = waiting.pop()
        word = word_of_node(node)
        if not is_right_node(program, table, many, word, node, taken, gone):
            raise InvalidPaper(word, n)
        if word == "check":
            _, key, one, other = node
            waiting.append((other, taken, gone + (key,)))
            waiting.append((one, taken + (key,), gone))
        n = n + 1


def word_of_node(thing):
    """Return by the shape of any value the word for which it may be wrong as a node; "shape" if it is none."""
    if not isinstance(thing, tuple):
        return "shape"
    if len(thing) == 0:
        return "few"
    if len(thing) == 2 and thing[0] == "state":
        return "state"
    return "check" if len(thing) == 4 and thing[0] == "check" else "shape"


def is_right_node(program, table, many, word, node, taken, gone):
    """Whether a node with this word is right where these checks are kept and those gone are dropped."""
    if word == "few":
        return len(taken) >= many
    if word == "state":
        return is_state(program[0], node[1]) and is_parted(table[node[1]], taken, gone)
    return word == "check" and is_undecided(program, node[1], taken + gone)


def is_undecided(program, thing, decided):
    """Whether any value is the key of a check that is not among those decided."""
    return has_key(program, thing) and step_at(program, thing)[0] == "check" and thing not in decided
