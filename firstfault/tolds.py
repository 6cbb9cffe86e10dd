"""What is told from each state, whichever checks of a program are left out."""

from firstfault.changes import with_step
from firstfault.keys import all_keys, step_at
from firstfault.running import states_of, trail
from firstfault.values import holds_in, value_in

TRUE = ("=", 0, 0)


def told_table(program):
    """Return a dict with the tuple of the rows (key, told) of each state, ascending.

    There is a row for each check that fails if no check ends the run, in the order in which they first do: told is
    what is told if all checks of the rows ahead, but not this one, are left out. The last row, with None for the
    key, has what is told without any of them.
    """
    # A check changes no state; so a run goes the same way as long as none ends it.
    unfailing = without_complaints(program)
    items = program[0]
    return {state: told_rows(program, trail(unfailing, state)) for state in states_of(items)}


def without_complaints(program):
    """Return the program with a condition that is always true in each check."""
    left = program
    for key in all_keys(program):
        step = step_at(program, key)
        if step[0] == "check":
            left = with_step(left, key, ("check", step[1], TRUE))
    return left


def told_rows(program, visits):
    """Return the rows (key, told) for the pairs (key, state) with which a run comes to steps if no check ends it."""
    items = program[0]
    said = ()
    found = {}
    for key, state in visits:
        step = step_at(program, key)
        if step[0] == "say":
            said = said + (value_in(items, state, step[1]),)
        elif step[0] == "check" and key not in found and not holds_in(items, state, step[2]):
            found[key] = (said, step[1])
    return tuple(found.items()) + ((None, (said, None)),)


def row_without(rows, gone):
    """Return the row by which a run ends without the checks with the keys in gone."""
    return [row for row in rows if row[0] not in gone][0]


def row_with(rows, kept):
    """Return the row by which a run ends with the checks with the keys in kept alone."""
    return [row for row in rows if row[0] is None or row[0] in kept][0]


def is_parted(rows, taken, gone):
    """Whether a state tells something else without those gone, whichever checks but those taken are left out, too."""
    key, told = row_without(rows, gone)
    return (key is None or key in taken) and told != rows[0][1]
