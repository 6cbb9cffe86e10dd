"""Lists of checks: those of DOC.md, others that are made by chance, always the same ones, and what they tell, done in
another way."""

from makers import Maker, all_states, value
from samples import COINS, FULL, ITEMS, NONE, SIX

LOW = ("check", "low", ("<", 1, COINS))
ZERO = ("check", "zero", ("not", ("=", COINS, 0)))
LIST = (FULL, NONE, LOW, ZERO)
UNDER = ("<", COINS, 3)
TWICE = (("check", "a", UNDER), ("check", "b", UNDER), ("check", "a", UNDER))
ALWAYS = ("check", "always", ("in", ()))
NEVER = ("check", "never", ("=", 0, 0))
EIGHT = tuple([("check", "abcdefgh"[k], ("<", COINS, 4 - k % 4)) for k in range(8)])
# Two items: rows, columns, and both.
GRID = (
    ("check", "a", ("<", ("item", "a"), 4)), ("check", "b", ("<", 1, ("item", "b"))),
    ("check", "a", ("=", ("item", "a"), ("item", "b"))), ("check", "c", ("in", ((1, 3), (2, 2), (2, 3)))),
)
LISTS = (
    (ITEMS, ()), (ITEMS, (FULL,)), (ITEMS, (NEVER,)), (ITEMS, (ALWAYS,)), (ITEMS, LIST), (ITEMS, LIST[::-1]),
    (ITEMS, TWICE),
    (ITEMS, (ALWAYS, FULL, NONE)), (ITEMS, (FULL, ALWAYS, NONE)), (ITEMS, (FULL, NEVER, FULL)), (ITEMS, EIGHT),
    (ITEMS, EIGHT[::-1]), (SIX, ()), (SIX, GRID), (SIX, GRID[::-1]), (SIX, (NEVER, GRID[3])),
)


def made_lists(many, seed=1, most=8, words="xyz"):
    """Return so many pairs of items and a list over them, with at most so many checks."""
    maker = Maker(seed)
    found = []
    for _ in range(many):
        maker.program()
        own = [maker.chance.choice(words) for _ in range(maker.chance.randint(0, most))]
        found.append((maker.items, tuple([("check", word, maker.condition(2)) for word in own])))
    return found


def with_other_words(checks):
    """Return the list with another word for each check."""
    return tuple([("check", "w" + "abcdefghijklmnop"[k], check[2]) for k, check in enumerate(checks)])


def slow_failing(items, checks, state):
    """Return the list of the indexes of the checks that fail in a state."""
    return [k for k in range(len(checks)) if not value(items, state, checks[k][2])]


def slow_word(items, checks, state):
    """Return what a list tells in a state."""
    for _, word, condition in checks:
        if not value(items, state, condition):
            return word
    return None


def slow_words(items, checks):
    """Return the list of what a list tells in each state, ascending."""
    return [slow_word(items, checks, state) for state in all_states(items)]


def slow_region(items, checks, k):
    """Return the set of the states in which check k is the first that fails."""
    return tuple([state for state in all_states(items) if slow_failing(items, checks, state)[:1] == [k]])


def index_sets(many):
    """Return all sets of the numbers below many, those with fewer elements first, else ascending."""
    found = []
    for bits in range(2 ** many):
        found.append(tuple([k for k in range(many) if bits >> k & 1]))
    return sorted(found, key=lambda row: (len(row), row))


def some_of(checks, indexes):
    """Return the list of the checks with these indexes, in this order."""
    return tuple([checks[k] for k in indexes])
