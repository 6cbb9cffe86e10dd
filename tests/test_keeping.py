"""[9], [40], [41]: lists with equal words: checks that are joined, and the fewest that are enough."""

import unittest

from faultcases import FaultCase
from firstfault.conditions import lets_condition
from firstfault.errors import NotUsable
from firstfault.keeping import fewest_kept, is_enough, joined, one_for_each_word
from firstfault.lists import idle_checks, regions, words_of_list
from listmakers import (
    ALWAYS, EIGHT, GRID, LIST, LISTS, NEVER, TWICE, UNDER, index_sets, made_lists, slow_words, some_of,
    with_other_words,
)
from makers import all_states, value
from samples import BIG, BOOLS, CONDITIONS, COINS, FULL, INTEGERS, ITEMS, JUNK, NAMES, NONE, SIX, STEPS


def check(word, condition):
    return "check", word, condition


AA = (check("a", UNDER), check("a", NONE[2]))
# To drop the second one alone changes what is told, to drop the last two does not; the first may be dropped in no case.
BAB = (check("b", FULL[2]), check("a", UNDER), check("b", UNDER))


class JoinedTest(FaultCase):
    def check_joined(self, items, checks, groups):
        """The list becomes one with a check for each group of indexes."""
        found = joined(checks)
        self.check_same([row[:2] for row in found], [("check", checks[group[0]][1]) for group in groups])
        for row, group in zip(found, groups):
            self.assertGreater(lets_condition(items, row[2]), 0)
            for state in all_states(items):
                due = all([value(items, state, checks[k][2]) for k in group])
                self.assertIs(bool(value(items, state, row[2])), bool(due))
        self.assertEqual(slow_words(items, found), slow_words(items, checks))

    def test_no_neighbours_with_one_word(self):
        self.check_same(joined(()), ())
        for checks in (LIST, LIST[:1], TWICE, EIGHT):
            self.check_joined(ITEMS, checks, [[k] for k in range(len(checks))])

    def test_two_and_more_in_a_row(self):
        self.check_joined(ITEMS, AA, [[0, 1]])
        self.check_joined(ITEMS, AA * 4, [list(range(8))])
        self.check_joined(ITEMS, AA + (FULL,), [[0, 1], [2]])
        self.check_joined(ITEMS, (FULL,) + AA, [[0], [1, 2]])
        self.check_joined(ITEMS, (FULL, check("full", NONE[2]), NONE, ALWAYS, check("always", UNDER), ALWAYS), [[0, 1], [2], [3, 4, 5]])

    def test_the_same_word_further_behind(self):
        self.check_joined(ITEMS, AA + (NONE,) + AA, [[0, 1], [2], [3, 4]])
        self.check_joined(ITEMS, TWICE + TWICE, [[0], [1], [2, 3], [4], [5]])
        self.check_joined(ITEMS, AA[:1] + (NEVER,) + AA[1:], [[0], [1], [2]])
        self.check_joined(SIX, GRID + GRID, [[k] for k in range(8)])

    def test_arguments(self):
        self.check_same(joined(checks=AA), joined(AA))


class OneForEachWordTest(FaultCase):
    def check_one(self, items, checks):
        found = one_for_each_word(items, checks)
        words = slow_words(items, checks)
        self.assertEqual([row[:2] for row in found], [("check", word) for word in sorted(set(words) - {None})])
        for row in found:
            self.assertGreater(lets_condition(items, row[2]), 0)
        self.assertEqual(slow_words(items, found), words)
        self.check_same(words_of_list(items, found), words_of_list(items, checks))

    def test_lists(self):
        for items, checks in LISTS + ((ITEMS, AA), (ITEMS, BAB), (ITEMS, TWICE + AA)):
            self.check_one(items, checks)
        self.check_same(one_for_each_word(ITEMS, ()), ())
        self.check_same(one_for_each_word(ITEMS, (NEVER, NEVER)), ())
        self.check_same(one_for_each_word(checks=LIST, items=ITEMS), one_for_each_word(ITEMS, LIST))


class IsEnoughTest(FaultCase):
    def test_example(self):
        found = [fewest_kept(ITEMS, TWICE), [is_enough(ITEMS, TWICE, kept) for kept in ((1, 2), (0, 1), (2,))]]
        self.check_same(found, [((0,), (2,)), [False, True, True]])

    def test_sets(self):
        self.assertIs(is_enough(ITEMS, (), ()), True)
        self.assertIs(is_enough(ITEMS, LIST, (0, 1, 2)), True)
        self.assertIs(is_enough(kept=(0, 1, 2, 3), checks=LIST, items=ITEMS), True)
        for kept in ((), (0,), (0, 1), (0, 1, 3), (1, 2, 3)):
            self.assertIs(is_enough(ITEMS, LIST, kept), False)
        self.assertIs(is_enough(ITEMS, (NEVER, NEVER), ()), True)
        self.assertIs(is_enough(ITEMS, (ALWAYS, FULL), (1,)), False)
        self.assertIs(is_enough(ITEMS, (ALWAYS, FULL), (0,)), True)

    def test_together_and_not_alone_and_the_other_way_round(self):
        # The first one not alone, but with the second.
        self.check_same([is_enough(ITEMS, TWICE, kept) for kept in ((1, 2), (2,))], [False, True])
        # Each of both alone, but not both.
        same = (FULL, FULL)
        self.check_same([is_enough(ITEMS, same, kept) for kept in ((0,), (1,), ())], [True, True, False])
        self.check_same([is_enough(ITEMS, BAB, kept) for kept in ((0, 1, 2), (0, 1), (0, 2), (1, 2), (0,), (1,))],
                        [True, True, False, False, False, False])

    def test_values_that_are_no_sets_of_indexes(self):
        for kept in JUNK + INTEGERS + NAMES + STEPS + CONDITIONS + BOOLS:
            if kept != ():
                self.check_fault(NotUsable("kept", -1), is_enough, ITEMS, LIST, kept)
                self.check_fault(NotUsable("kept", -1), is_enough, ITEMS, (), kept)
        for kept in (
            (1, 0), (0, 0), (0, 1, 1), (0, 2, 1), (4,), (0, 4), (BIG,), (-1,), (-1, 0), (0, True), (False,), (False, 1),
            (True,), [0], [0, 1], [], ("0",), ((0,),), (0, None), (None,), {}, (0, [1]), "01", range(2), (0, "1"),
            (0, (1,)),
        ):
            self.check_fault(NotUsable("kept", -1), is_enough, ITEMS, LIST, kept)
        self.check_fault(NotUsable("kept", -1), is_enough, ITEMS, (), (0,))


class FewestKeptTest(FaultCase):
    def test_sets(self):
        self.check_same(fewest_kept(ITEMS, ()), ((),))
        self.check_same(fewest_kept(ITEMS, (NEVER, NEVER)), ((),))
        self.check_same(fewest_kept(ITEMS, (FULL,)), ((0,),))
        self.check_same(fewest_kept(checks=LIST, items=ITEMS), ((0, 1, 2),))
        self.check_same(fewest_kept(ITEMS, EIGHT), ((0, 1, 2, 3),))
        self.check_same(fewest_kept(ITEMS, BAB), ((0, 1),))

    def test_several_sets_in_order(self):
        self.check_same(fewest_kept(ITEMS, (FULL, FULL, FULL)), ((0,), (1,), (2,)))
        self.check_same(fewest_kept(ITEMS, (FULL, NONE, FULL, NONE)), ((0, 1), (0, 3), (1, 2), (2, 3)))
        due = tuple(sorted([tuple(sorted([i, j])) for i in (0, 2, 4, 6) for j in (1, 3, 5, 7)]))
        self.check_same(fewest_kept(ITEMS, (FULL, NONE) * 4), due)

    def test_a_word_that_needs_more_than_one_check(self):
        two = (check("a", FULL[2]), check("a", NONE[2]), check("a", ("not", ("=", COINS, 2))))
        self.check_same(fewest_kept(ITEMS, two), ((0, 1, 2),))
        all_at_once = two + (check("a", ("in", ((1,), (3,)))),)
        self.check_same(fewest_kept(ITEMS, all_at_once), ((3,),))


class ChanceTest(FaultCase):
    def setUp(self):
        self.lists = list(LISTS) + made_lists(80) + made_lists(60, seed=5, words="xy")

    def test_exact(self):
        alone = {True: 0, False: 0}
        for items, checks in self.lists:
            due = []
            words = slow_words(items, checks)
            for kept in index_sets(len(checks)):
                same = slow_words(items, some_of(checks, kept)) == words
                alone[same] = alone[same] + 1
                self.assertIs(is_enough(items, checks, kept), same)
                if same and (not due or len(due[0]) == len(kept)):
                    due.append(kept)
            self.check_same(fewest_kept(items, checks), tuple(due))
        self.assertGreater(min(alone.values()), 100)

    def test_joined_and_one_for_each_word_tell_the_same(self):
        for items, checks in self.lists:
            words = slow_words(items, checks)
            self.assertEqual(slow_words(items, joined(checks)), words)
            self.assertEqual(slow_words(items, one_for_each_word(items, checks)), words)
            # No other list can have fewer: each word that comes needs a check.
            self.assertEqual(len(one_for_each_word(items, checks)), len(set(words) - {None}))
            own = [row[1] for row in joined(checks)]
            self.assertTrue(all(own[k] != own[k + 1] for k in range(len(own) - 1)))

    def test_with_distinct_words(self):
        for items, checks in self.lists:
            checks = with_other_words(checks)
            idle = idle_checks(items, checks)
            self.check_same(fewest_kept(items, checks), (tuple([k for k in range(len(checks)) if k not in idle]),))

    def test_idle_checks_may_be_dropped_but_need_not_be_among_those_of_the_fewest(self):
        for items, checks in self.lists:
            rest = tuple([k for k, region in enumerate(regions(items, checks)) if region])
            self.assertIs(is_enough(items, checks, rest), True)
            self.assertLessEqual(len(fewest_kept(items, checks)[0]), len(rest))

    def test_arguments_stay_as_they_are_and_no_call_hangs_on_an_earlier_one(self):
        told = repr(self.lists)
        rows = self.lists[:60]
        first = [(fewest_kept(*row), joined(row[1]), one_for_each_word(*row)) for row in rows]
        again = [(fewest_kept(*row), joined(row[1]), one_for_each_word(*row)) for row in rows[::-1]][::-1]
        kept = [[0], 1]
        self.check_fault(NotUsable("kept", -1), is_enough, ITEMS, LIST, kept)
        self.check_same([again, repr(self.lists), kept], [first, told, [[0], 1]])


if __name__ == "__main__":
    unittest.main()
