"""List papers: a state for each check that is not idle, and what hides each one that is."""

from firstfault.lists import failing_table, region_in


def list_paper(items, checks):
    """Return a list paper of a list."""
    table = failing_table(items, checks)
    return tuple([list_entry(table, k) for k in range(len(checks))])


def list_entry(table, k):
    """Return the entry for check k, from the table of what fails in each state."""
    region = region_in(table, k)
    if region:
        return "first", region[0]
    return "idle", tuple([failing[0] for failing in table.values() if k in failing])
