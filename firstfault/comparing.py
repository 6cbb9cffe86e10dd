"""Programs compared by what is told: what parts two of them, which words one tells, and conditions around a step."""

from firstfault.errors import NotUsable
from firstfault.running import run, states_of
from firstfault.values import holds_in


def are_alike(one, other):
    """Whether two programs are alike: the same is told from each state."""
    return parting_state(one, other) is None


def are_equal(one, other):
    """Whether two programs are equal: from each state the same is told, and the end is the same."""
    return parting_state(one, other, ends=True) is None


def parting_state(one, other, *, ends=False):
    """Return the least state that parts two programs, or with ends parts them at the end; None if there is none."""
    check_same_items(one, other)
    items = one[0]
    for state in states_of(items):
        told, end = run(one, state)
        other_told, other_end = run(other, state)
        if told != other_told or ends and end != other_end:
            return state
    return None


def check_same_items(one, other):
    """Raise NotUsable if two programs are not over the same items."""
    if one[0] != other[0]:
        raise NotUsable("items", -1)


def words_told(program):
    """Return the set of all words that are told from states."""
    items = program[0]
    words = [run(program, state)[0][1] for state in states_of(items)]
    found = {word for word in words if word is not None}
    return tuple(sorted(found))


def states_telling(program, word):
    """Return the set of the states from which this word, any value, is told; for None those with no word."""
    items = program[0]
    return tuple([state for state in states_of(items) if run(program, state)[0][1] == word])


def before(items, step, condition, *, calls=()):
    """Return ("in", states) with all states from which the step ends where the condition is true."""
    rows = ends_of(items, step, calls)
    return "in", tuple([state for state, end in rows if holds_in(items, end, condition)])


def behind(items, step, condition, *, calls=()):
    """Return ("in", states) with all ends to which the step leads from where the condition is true."""
    found = {end for state, end in ends_of(items, step, calls) if holds_in(items, state, condition)}
    return "in", tuple(sorted(found))


def ends_of(items, step, calls):
    """Return the list of the pairs (state, end) for the states from which the step does not complain."""
    program = (items, calls, (step,))
    rows = [(state, run(program, state)[1]) for state in states_of(items)]
    return [(state, end) for state, end in rows if end is not None]
