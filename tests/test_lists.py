"""[7], [9], [32], [33]: lists of checks, their regions, and which checks are idle."""

import unittest

from faultcases import FaultCase
from firstfault.errors import InvalidState
from firstfault.lists import first_failing, idle_checks, least_list, regions, words_of_list
from listmakers import (
    ALWAYS, EIGHT, GRID, LIST, LISTS, LOW, NEVER, TWICE, ZERO, index_sets, made_lists, slow_failing, slow_region,
    slow_words,
    some_of, with_other_words,
)
from makers import all_states
from samples import BIG, COINS, FULL, INTEGERS, ITEMS, JUNK, NAMES, NONE, SIX, STEPS


class FirstFailingTest(FaultCase):
    def test_each_state(self):
        self.check_same([first_failing(ITEMS, LIST, (k,)) for k in range(5)], [1, 2, None, None, 0])
        self.check_same([first_failing(ITEMS, LIST[::-1], (k,)) for k in range(5)], [0, 1, None, None, 3])
        self.check_same([first_failing(ITEMS, TWICE, (k,)) for k in range(5)], [None, None, None, 0, 0])
        self.check_same([first_failing(ITEMS, (NEVER, ALWAYS, ALWAYS), (k,)) for k in range(5)], [1] * 5)
        self.check_same([first_failing(ITEMS, (), (k,)) for k in range(5)], [None] * 5)
        self.check_same([first_failing(SIX, GRID, state) for state in ((4, 2), (5, 5), (1, 1), (1, 2), (2, 2))], [0, 0, 1, 2, None])

    def test_arguments(self):
        self.check_same(first_failing(state=(1,), checks=LIST, items=ITEMS), 2)

    def test_values_that_are_no_states(self):
        for state in JUNK + INTEGERS + NAMES + STEPS + (
            (5,), (-1,), (BIG,), (2, 2), [2], (True,), (False,), ("2",), ((2,),), (None,), ([2],), ((0,), (1,)),
        ):
            for checks in ((), LIST, (ALWAYS,)):
                self.check_fault(InvalidState(state), first_failing, ITEMS, checks, state)
        for state in ((0,), (0, 6), (-1, 0), (0, 0, 0), (0, True), [0, 0], (0, None)):
            self.check_fault(InvalidState(state), first_failing, SIX, GRID, state)


class RegionsTest(FaultCase):
    def test_example(self):
        self.check_same([regions(ITEMS, LIST), idle_checks(ITEMS, LIST)], [(((4,),), ((0,),), ((1,),), ()), (3,)])

    def test_regions(self):
        self.check_same(regions(ITEMS, ()), ())
        self.check_same(regions(ITEMS, (NEVER,)), ((),))
        self.check_same(regions(checks=(ALWAYS, FULL), items=ITEMS), (((0,), (1,), (2,), (3,), (4,)), ()))
        self.check_same(regions(ITEMS, (ZERO, NONE, LOW)), (((0,),), (), ((1,),)))
        self.check_same(regions(ITEMS, TWICE), (((3,), (4,)), (), ()))
        self.check_same(regions(ITEMS, EIGHT), (((4,),), ((3,),), ((2,),), ((1,),), (), (), (), ()))

    def test_words(self):
        self.check_same(words_of_list(ITEMS, LIST), ("full", "low", "none"))
        self.check_same(words_of_list(checks=LIST[::-1], items=ITEMS), ("full", "low", "zero"))
        self.check_same(words_of_list(ITEMS, TWICE), ("a",))
        for checks in ((), (NEVER,), (NEVER, NEVER)):
            self.check_same(words_of_list(ITEMS, checks), ())
        self.check_same(words_of_list(SIX, GRID), ("a", "b", "c"))
        # A word that two checks tell stands once.
        self.check_same(words_of_list(ITEMS, (("check", "x", FULL[2]), ("check", "x", NONE[2]))), ("x",))


class IdleTest(FaultCase):
    def test_idle_checks(self):
        self.check_same(idle_checks(ITEMS, ()), ())
        self.check_same(idle_checks(ITEMS, LIST), (3,))
        self.check_same(idle_checks(checks=LIST[::-1], items=ITEMS), (2,))
        self.check_same(idle_checks(ITEMS, (NEVER, FULL, NEVER)), (0, 2))
        self.check_same(idle_checks(ITEMS, (ALWAYS, FULL, ALWAYS)), (1, 2))
        self.check_same(idle_checks(ITEMS, EIGHT), (4, 5, 6, 7))
        # Idle is what hides nothing, also with a word that is told.
        self.check_same(idle_checks(ITEMS, TWICE), (1, 2))

    def test_least_list(self):
        self.check_same(least_list(ITEMS, ()), ())
        self.check_same(least_list(ITEMS, LIST), LIST[:3])
        self.check_same(least_list(checks=LIST[::-1], items=ITEMS), (ZERO, LOW, FULL))
        self.check_same(least_list(ITEMS, (NEVER, NEVER)), ())
        self.check_same(least_list(ITEMS, TWICE), TWICE[:1])
        self.check_same(least_list(ITEMS, (FULL, NONE)), (FULL, NONE))


class ChanceTest(FaultCase):
    def setUp(self):
        self.lists = list(LISTS) + made_lists(150) + [(items, with_other_words(row)) for items, row in made_lists(60, seed=4)]

    def test_by_another_way(self):
        for items, checks in self.lists:
            words = slow_words(items, checks)
            due = [slow_failing(items, checks, state) for state in all_states(items)]
            found = [first_failing(items, checks, state) for state in all_states(items)]
            self.check_same(found, [row[0] if row else None for row in due])
            rows = tuple([slow_region(items, checks, k) for k in range(len(checks))])
            self.check_same(regions(items, checks), rows)
            self.check_same(words_of_list(items, checks), tuple(sorted(set(words) - {None})))
            self.check_same(idle_checks(items, checks), tuple([k for k, row in enumerate(rows) if row == ()]))
            self.check_same(least_list(items, checks), tuple([check for check, row in zip(checks, rows) if row]))

    def test_all_idle_checks_may_be_dropped_at_once(self):
        for items, checks in self.lists:
            self.assertEqual(slow_words(items, least_list(items, checks)), slow_words(items, checks))
            self.check_same(idle_checks(items, least_list(items, checks)), ())

    def test_with_distinct_words_no_other_one_may(self):
        for items, checks in self.lists:
            checks = with_other_words(checks[:6])
            idle = idle_checks(items, checks)
            for kept in index_sets(len(checks)):
                same = slow_words(items, some_of(checks, kept)) == slow_words(items, checks)
                self.assertIs(same, all(k in kept or k in idle for k in range(len(checks))))

    def test_arguments_stay_as_they_are_and_no_call_hangs_on_an_earlier_one(self):
        told = repr(self.lists)
        first = [(regions(*row), words_of_list(*row), least_list(*row)) for row in self.lists]
        again = [(regions(*row), words_of_list(*row), least_list(*row)) for row in self.lists[::-1]][::-1]
        self.check_same([again, repr(self.lists)], [first, told])
        state = [[0]]
        self.check_fault(InvalidState(state), first_failing, ITEMS, LIST, state)
        self.check_same([state, first_failing(ITEMS, (FULL, ("check", "a", ("<", COINS, 0))), (0,))], [[[0]], 1])


if __name__ == "__main__":
    unittest.main()
