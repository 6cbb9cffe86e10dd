"""Keep papers: checks of a list that are enough, and a tree that shows that fewer are not."""

from firstfault.keeping import fewest_kept, is_lost
from firstfault.lists import failing_table


def keep_paper(items, checks):
    """Return a keep paper of a list."""
    kept = fewest_kept(items, checks)[0]
    return kept, keep_node(checks, failing_table(items, checks), len(kept), (), ())


def keep_node(checks, table, many, kept, gone):
    """Return the node where these checks are kept and those gone are dropped; less than so many are not enough."""
    if len(kept) == many:
        return None
    for state, failing in table.items():
        if is_lost(checks, failing, kept, gone):
            return "state", state
    # If all were decided, some state would be lost: those kept are too few.
    k = [n for n in range(len(checks)) if n not in kept + gone][0]
    one = keep_node(checks, table, many, kept + (k,), gone)
    return "both", k, one, keep_node(checks, table, many, kept, gone + (k,))
