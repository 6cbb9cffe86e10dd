"""Runs: what they tell, where they end, and to which steps they come with which states."""

from firstfault.errors import InvalidState
from firstfault.keys import all_keys, check_at, step_at
from firstfault.kinds import is_state
from firstfault.values import holds_in, put_in, value_in

MOST_ROUNDS = 3


def states_of(items):
    """Yield all states of the items, ascending."""
    state = tuple([low for name, low, high in items])
    while state is not None:
        yield state
        state = next_state(items, state)


def run(program, state):
    """Return the pair (told, end) of the run from a state; InvalidState for any value that is none."""
    done = Run(program, state)
    end = done.state if done.failed is None else None
    return (tuple(done.numbers), done.word), end


def complained_by(program, state):
    """Return the key of the check by which the run from a state complains, None if it does not."""
    return Run(program, state).failed


def trail(program, state):
    """Return the pairs (key, state) with which the run from a state comes to steps, in order."""
    return tuple(Run(program, state).visits)


def arrivals(program, key):
    """Return the set of the states with which runs, from all states, come to the key."""
    step_at(program, key)
    items = program[0]
    found = {state for start in states_of(items) for at, state in trail(program, start) if at == key}
    return tuple(sorted(found))


def complaints_by(program, key):
    """Return the set of the states from which runs complain by the check with this key."""
    check_at(program, key)
    items = program[0]
    return tuple([state for state in states_of(items) if complained_by(program, state) == key])


def unreached_keys(program):
    """Return the keys to which no run comes, in the order of all_keys."""
    items = program[0]
    reached = {at: True for start in states_of(items) for at, state in trail(program, start)}
    return tuple([key for key in all_keys(program) if key not in reached])


def next_state(items, state):
    """Return the state right behind a state, None behind the last one."""
    for k in reversed(range(len(items))):
        if state[k] < items[k][2]:
            return state[:k] + (state[k] + 1,) + tuple([low for name, low, high in items[k + 1:]])
    return None


class Run:
    """The run of a program from a state, done to its end.

    state is the one it has then; numbers are those that were said; visits are the pairs (key, state) with which
    it came to steps. failed and word are the key and the word of the check by which it complained, or None.
    """

    def __init__(self, program, state):
        items, calls, steps = program
        if not is_state(items, state):
            raise InvalidState(state)
        self._item_rows = items
        self._steps_by_name = dict(calls)
        self.state = state
        self.numbers = []
        self.visits = []
        self.failed = None
        self.word = None
        self.do_steps(None, (), steps)

    def do_steps(self, part, path, steps):
        """Do the steps of this part whose keys have this path and an index; return whether the run goes on."""
        for k, step in enumerate(steps):
            here = path + (k,)
            self.visits.append(((part, here), self.state))
            if not self.do_step(part, here, step):
                return False
        return True

    def do_step(self, part, path, step):
        """Do the step with this key; return whether the run goes on."""
        word = step[0]
        if word == "check":
            return self.do_check(part, path, step)
        if word == "if":
            j = 0 if holds_in(self._item_rows, self.state, step[1]) else 1
            return self.do_steps(part, path + (j,), step[2 + j])
        if word == "repeat":
            return self.do_repeat(part, path, step)
        if word == "call":
            return self.do_steps(step[1], (), self._steps_by_name[step[1]])
        if word == "set":
            self.state = put_in(self._item_rows, self.state, step[1], step[2])
        else:
            self.numbers.append(value_in(self._item_rows, self.state, step[1]))
        return True

    def do_check(self, part, path, step):
        """Return whether the condition of a check is true; keep that it failed otherwise."""
        if holds_in(self._item_rows, self.state, step[2]):
            return True
        self.failed = (part, path)
        self.word = step[1]
        return False

    def do_repeat(self, part, path, step):
        """Do the steps in a "repeat" as often as its number tells at first; return whether the run goes on."""
        rounds = min(value_in(self._item_rows, self.state, step[1]), MOST_ROUNDS)
        for _ in range(rounds):
            if not self.do_steps(part, path + (0,), step[2]):
                return False
        return True
