"""Drop papers: checks that are enough, and a tree that shows that fewer are not."""

from firstfault.dropping import fewest_checks
from firstfault.tolds import is_parted, row_without, told_table


def drop_paper(program):
    """Return a drop paper of a program."""
    kept = fewest_checks(program)[0]
    return kept, drop_node(told_table(program), len(kept), (), ())


def drop_node(table, many, taken, gone):
    """Return the node where these checks are kept and those gone are dropped; less than so many are not enough."""
    if len(taken) >= many:
        return ()
    for state, rows in table.items():
        if is_parted(rows, taken, gone):
            return "state", state
    key = asked_key(table, taken, gone)
    return "check", key, drop_node(table, many, taken + (key,), gone), drop_node(table, many, taken, gone + (key,))


def asked_key(table, taken, gone):
    """Return the key of a check, neither taken nor gone, by which some run complains without those that are gone.

    There is one: otherwise those that are taken would be enough, though they are fewer than the fewest.
    """
    keys = [row_without(rows, gone)[0] for rows in table.values()]
    return [key for key in keys if key is not None and key not in taken][0]
