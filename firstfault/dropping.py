"""Checks that are dropped, and the fewest that leave a program alike."""

from firstfault.changes import without_step
from firstfault.choosing import fewest_sets
from firstfault.comparing import are_alike
from firstfault.keys import all_keys, check_at, step_at
from firstfault.tolds import row_with, told_table


def checks_of(program):
    """Return the tuple of the keys of all checks."""
    return tuple([key for key in all_keys(program) if step_at(program, key)[0] == "check"])


def dropped(program, *keys):
    """Return the program without the checks with these keys; UnknownKey, then NoCheck, for the first that is wrong."""
    for key in keys:
        step_at(program, key)
    for key in keys:
        check_at(program, key)
    left = program
    # From behind: to take a step out moves only those behind it.
    for key in checks_of(program)[::-1]:
        if key in keys:
            left = without_step(left, key)
    return left


def may_drop(program, *keys):
    """Whether the program without the checks with these keys is alike; the errors of dropped."""
    return are_alike(program, dropped(program, *keys))


def fewest_checks(program):
    """Return all sets of keys of checks with the fewest elements that are enough to leave the program alike."""
    table = told_table(program)
    # All checks are enough; so there is such a set.
    return fewest_sets(checks_of(program), lambda kept: are_enough(table, kept))


def are_enough(table, kept):
    """Whether the checks with these keys alone tell from each state what all of them do."""
    return all([row_with(rows, kept)[1] == rows[0][1] for rows in table.values()])
