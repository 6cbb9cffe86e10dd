"""Sets of things that are chosen, those with fewer of them first."""


def fewest_sets(things, does):
    """Return all sets of the things with the fewest in them for which does tells True; None if there is none.

    things is a tuple; the sets come in the order of the tuples of their indexes in it.
    """
    for many in range(len(things) + 1):
        found = [chosen for chosen in sets_of(things, many) if does(chosen)]
        if found:
            return tuple(found)
    return None


def sets_of(things, many):
    """Return the list of all sets of so many of the things, in the order of the tuples of their indexes."""
    rows = [()]
    for _ in range(many):
        rows = [row + (k,) for row in rows for k in range(row[-1] + 1 if row else 0, len(things))]
    return [tuple([things[k] for k in row]) for row in rows]
