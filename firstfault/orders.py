"""Orders of a list that tell the same, and the work that they make."""

from firstfault.errors import NotUsable
from firstfault.kinds import is_number_tuple
from firstfault.lists import failing_table, tells_with, word_of_first


def must_ahead(items, checks):
    """Return the set of all pairs (i, j) such that check i must stand ahead of check j."""
    found = {(failing[0], j) for failing in failing_table(items, checks).values() for j in failing[1:]}
    return tuple(sorted(found))


def may_order(items, checks, order):
    """Whether an order tells the same; NotUsable for any value that is no order."""
    if not is_order(checks, order):
        raise NotUsable("order", -1)
    return tells_with(checks, failing_table(items, checks), order)


def orders(items, checks):
    """Yield all orders that tell the same, ascending."""
    table = failing_table(items, checks)
    # The last one waiting is the next one: the beginning of an order, or a whole one.
    waiting = [()]
    while waiting:
        order = waiting.pop()
        if len(order) == len(checks):
            yield order
        waiting.extend(longer_orders(checks, table, order))


def work(items, checks):
    """Return how many checks are asked, over all states together."""
    return work_of(failing_table(items, checks), tuple(range(len(checks))))


def least_work(items, checks):
    """Return the least work of all orders that tell the same, and the ascending tuple of those that have it."""
    table = failing_table(items, checks)
    rows = [(work_of(table, order), order) for order in orders(items, checks)]
    least = min([many for many, order in rows])
    return least, tuple([order for many, order in rows if many == least])


def is_order(checks, thing):
    """Whether any value is a tuple with each index of the list once."""
    return is_number_tuple(thing) and sorted(thing) == list(range(len(checks)))


def longer_orders(checks, table, order):
    """Return what the beginning of an order becomes by one more index, where it can still tell the same.

    The one with the greatest index comes first.
    """
    left = [k for k in range(len(checks)) if k not in order]
    return [order + (k,) for k in left[::-1] if may_follow(checks, table, order, k)]


def may_follow(checks, table, order, k):
    """Whether check k tells what the list does in each state in which it, and none of those in the order, fails."""
    return all([
        word_of_first(checks, failing) == checks[k][1]
        for failing in table.values()
        if k in failing and not any([n in failing for n in order])
    ])


def work_of(table, order):
    """Return the work of the list in this order, from the table of what fails in each state."""
    return sum([asked(failing, order) for failing in table.values()])


def asked(failing, order):
    """Return how many checks are asked in a state in which these fail, if they are asked in this order."""
    places = [n for n, k in enumerate(order) if k in failing]
    return places[0] + 1 if places else len(order)
