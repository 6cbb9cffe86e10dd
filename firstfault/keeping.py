"""Lists with equal words: checks that are joined, and the fewest that are enough."""

from firstfault.choosing import fewest_sets
from firstfault.errors import NotUsable
from firstfault.kinds import is_number_tuple
from firstfault.lists import failing_table, tells_with, word_of_first, words_of_list


def joined(checks):
    """Return the list in which neighbours with one word are one check."""
    found = []
    for check in checks:
        if found and found[-1][1] == check[1]:
            found[-1] = ("check", check[1], ("and", found[-1][2], check[2]))
        else:
            found.append(check)
    return tuple(found)


def one_for_each_word(items, checks):
    """Return a list that tells the same, with one check for each word that is told, words ascending."""
    table = failing_table(items, checks)
    words = words_of_list(items, checks)
    return tuple([("check", word, ("not", ("in", states_of_word(checks, table, word)))) for word in words])


def is_enough(items, checks, kept):
    """Whether the list of the checks with the indexes kept alone tells the same; NotUsable if it is no set of them."""
    if not is_index_set(checks, kept):
        raise NotUsable("kept", -1)
    return tells_with(checks, failing_table(items, checks), kept)


def fewest_kept(items, checks):
    """Return all sets of indexes that are enough, with as few elements as possible, ascending."""
    table = failing_table(items, checks)
    # All checks are enough; so there is such a set.
    return fewest_sets(tuple(range(len(checks))), lambda kept: tells_with(checks, table, kept))


def states_of_word(checks, table, word):
    """Return the set of the states in which the list tells this word."""
    return tuple([state for state, failing in table.items() if word_of_first(checks, failing) == word])


def is_index_set(checks, thing):
    """Whether any value is a set of indexes of the list."""
    return is_number_tuple(thing) and all([is_next_index(checks, thing, k) for k in range(len(thing))])


def is_next_index(checks, numbers, k):
    """Whether number k of several is an index of the list and greater than the one before."""
    return numbers[k] < len(checks) and (k == 0 or numbers[k - 1] < numbers[k])


def is_lost(checks, failing, kept, gone):
    """Whether the list does not tell any more what it does in a state, however the checks in neither set are decided.

    failing are the checks that fail there; those kept stay, those gone are dropped.
    """
    word = word_of_first(checks, failing)
    for k in failing:
        # All open checks ahead that say another word may be dropped; so one that says this word can be the first.
        if checks[k][1] == word and k not in gone:
            return False
        if k in kept:
            return True
    return word is not None
