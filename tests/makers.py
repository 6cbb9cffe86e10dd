"""Programs that are made by chance, always the same ones, and runs of them that are done in another way."""

import operator
import random

from samples import nested

NUMBERS = {"+": operator.add, "-": operator.sub, "*": operator.mul}
CONDITIONS = {"=": operator.eq, "<": operator.lt, "and": operator.and_, "or": operator.or_}


class Maker:
    """Makes programs over one or two items with steps of each kind."""

    def __init__(self, seed):
        self.chance = random.Random(seed)
        self.many = 0
        self.items = ()

    def program(self):
        chance = self.chance
        self.many = chance.randint(0, 14)
        names = sorted(chance.sample(["a", "b", "coins", "item"], chance.randint(1, 2)))
        rows = []
        for name in names:
            low = chance.randint(-3, 2)
            rows.append((name, low, low + chance.randint(0, 4)))
        self.items = tuple(rows)
        calls = ()
        for name in chance.sample(["main", "part", "zed"], chance.randint(0, 2)):
            calls = calls + ((name, self.steps([row[0] for row in calls], 1)),)
        return self.items, calls, self.steps([row[0] for row in calls], 0)

    def steps(self, known, depth):
        made = []
        for _ in range(self.chance.randint(0, 4)):
            if self.many > 0:
                self.many = self.many - 1
                made.append(self.step(known, depth))
        return tuple(made)

    def step(self, known, depth):
        words = ["check", "check", "say", "set"] + (["if", "repeat"] if depth < 3 else []) + (["call"] if known else [])
        word = self.chance.choice(words)
        if word == "check":
            return word, self.chance.choice("xyz"), self.condition(2)
        if word == "say":
            return word, self.number(2)
        if word == "set":
            return word, self.chance.choice(self.items)[0], self.number(2)
        if word == "if":
            return word, self.condition(2), self.steps(known, depth + 1), self.steps(known, depth + 1)
        if word == "repeat":
            return word, self.number(1), self.steps(known, depth + 1)
        return word, self.chance.choice(known)

    def number(self, depth):
        kind = self.chance.randint(0, 4 if depth > 0 else 2)
        if kind == 0:
            return self.chance.randint(-3, 5)
        if kind <= 2:
            return "item", self.chance.choice(self.items)[0]
        return self.chance.choice("+-*"), self.number(depth - 1), self.number(depth - 1)

    def condition(self, depth):
        word = self.chance.choice(["=", "<", "<", "in"] + (["and", "or", "not"] if depth > 0 else []))
        if word == "in":
            return word, tuple([state for state in all_states(self.items) if self.chance.random() < 0.6])
        if word == "not":
            return word, self.condition(depth - 1)
        inner = self.number if word in "=<" else self.condition
        return word, inner(depth - 1), inner(depth - 1)


def all_states(items):
    """Return all states, ascending."""
    rows = [()]
    for _, low, high in items:
        rows = [row + (k,) for row in rows for k in range(low, high + 1)]
    return rows


def value(items, state, thing):
    """The value of a number, or whether a condition is true."""
    if isinstance(thing, int):
        return thing
    word, *inner = thing
    if word == "item":
        return {name: state[k] for k, (name, _, _) in enumerate(items)}[inner[0]]
    if word == "in":
        return list(state) in [list(row) for row in inner[0]]
    if word == "not":
        return not value(items, state, inner[0])
    return (NUMBERS | CONDITIONS)[word](*[value(items, state, part) for part in inner])


def slow_run(program, state):
    """Return what a run tells, its end, the key by which it complains, and its trail, by a list of steps that are due."""
    items, calls, steps = program
    names = [name for name, _, _ in items]
    said, came = [], []
    due = [((None, (k,)), step) for k, step in enumerate(steps)]
    while due:
        key, step = due.pop(0)
        came.append((key, state))
        part, path = key
        if step[0] == "check":
            if not value(items, state, step[2]):
                return (tuple(said), step[1]), None, key, tuple(came)
        elif step[0] == "say":
            said.append(value(items, state, step[1]))
        elif step[0] == "set":
            k = names.index(step[1])
            reachable = range(items[k][1], items[k][2] + 1)
            nearest = sorted(reachable, key=lambda n: abs(n - value(items, state, step[2])))[0]
            state = state[:k] + (nearest,) + state[k + 1:]
        elif step[0] == "if":
            j = 0 if value(items, state, step[1]) else 1
            due = [((part, path + (j, k)), inner) for k, inner in enumerate(step[2 + j])] + due
        elif step[0] == "repeat":
            rounds = sorted([0, value(items, state, step[1]), 3])[1]
            due = [((part, path + (0, k)), inner) for k, inner in enumerate(step[2])] * rounds + due
        else:
            due = [((step[1], (k,)), inner) for k, inner in enumerate(dict(calls)[step[1]])] + due
    return (tuple(said), None), state, None, tuple(came)


def made_programs(many, seed=1):
    """Return so many programs."""
    maker = Maker(seed)
    return [maker.program() for _ in range(many)]


def slow_tolds(program):
    """Return the list of what is told from each state, ascending."""
    return [slow_run(program, state)[0] for state in all_states(program[0])]


def slow_alike(one, other):
    """Whether two programs tell the same from each state."""
    return slow_tolds(one) == slow_tolds(other)


def slow_equal(one, other):
    """Whether two programs tell the same from each state and end the same way."""
    return [slow_run(one, state)[:2] for state in all_states(one[0])] == [
        slow_run(other, state)[:2] for state in all_states(other[0])]


def rebuilt(program, turn):
    """Return the program with the steps that turn(key, step) returns in place of each step, inner ones first."""
    items, calls, steps = program
    return items, tuple([(name, rebuilt_steps(name, (), own, turn)) for name, own in calls]), rebuilt_steps(
        None, (), steps, turn)


def rebuilt_steps(part, path, steps, turn):
    made = ()
    for k, step in enumerate(steps):
        here = path + (k,)
        if step[0] in ("if", "repeat"):
            step = step[:2] + tuple([rebuilt_steps(part, here + (j,), own, turn) for j, own in enumerate(step[2:])])
        made = made + turn((part, here), step)
    return made


def slow_dropped(program, gone):
    """Return the program without the checks with the keys in gone."""
    return rebuilt(program, lambda key, step: () if key in gone else (step,))


def steps_by_key(program):
    """Return a dict with the steps of all keys."""
    found = {}

    def keep(key, step):
        found[key] = step
        return (step,)

    rebuilt(program, keep)
    return found


def keys_of_checks(program):
    """Return the list of the keys of all checks, in order."""
    order = [name for name, _ in program[1]] + [None]
    found = [key for key, step in steps_by_key(program).items() if step[0] == "check"]
    return sorted(found, key=lambda key: (order.index(key[0]), key[1]))


def with_distinct_words(program):
    """Return the program with another word for each check."""
    words = {key: "w" + "abcdefghijklmnop"[n] for n, key in enumerate(keys_of_checks(program))}
    return rebuilt(program, lambda key, step: (step[:1] + (words[key],) + step[2:] if step[0] == "check" else step,))


def within_repeats(step, many):
    """Return the step within so many others."""
    return nested(step, lambda inner: ("repeat", 1, (inner,)), many)
