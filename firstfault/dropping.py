"""Checks that are dropped, and the fewest that leave a program alike."""

from firstfault.changes import without_step
from firstfault.comparing import are_alike
from firstfault.keys import all_keys, check_at, step_at
from firstfault.tolds import row_with, told_table


def checks_of(program):
    """Return the tuple of the keys of all checks."""
    return tuple([key for key in all_keys(program) if step_at(program, key)[0] == "check"])


def dropped(program, *keys):
    """Return the program without the checks with these keys; UnknownKey, then NoCheck, for the first that is wrong."""
    for key in keys:
        step_at(program, key)
    for key in keys:
        check_at(program, key)
    left = program
    # From behind: to take a step out moves only those behind it.
    for key in checks_of(program)[::-1]:
        if key in keys:
            left = without_step(left, key)
    return left


def may_drop(program, *keys):
    """Whether the program without the checks with these keys is alike; the errors of dropped."""
    return are_alike(program, dropped(program, *keys))


def fewest_checks(program):
    """Return all sets of keys of checks with the fewest elements that are enough to leave the program alike."""
    keys = checks_of(program)
    table = told_table(program)
    many = 0
    found = []
    # All checks are enough; so the loop ends.
    while not found:
        found = [kept for kept in key_sets(keys, many) if are_enough(table, kept)]
        many = many + 1
    return tuple(found)


def are_enough(table, kept):
    """Whether the checks with these keys alone tell from each state what all of them do."""
    return all([row_with(rows, kept)[1] == rows[0][1] for rows in table.values()])


def key_sets(keys, many):
    """Return the list of all sets of so many of the keys, in the order of the tuples of their indexes."""
    rows = [()]
    for _ in range(many):
        rows = [row + (k,) for row in rows for k in range(row[-1] + 1 if row else 0, len(keys))]
    return [tuple([keys[k] for k in row]) for row in rows]
