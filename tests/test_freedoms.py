"""[9], [37], [39]: which conditions may replace that of a check in a list."""

import unittest

from faultcases import FaultCase
from firstfault.errors import NotUsable, UnfitPart
from firstfault.freedoms import freedom, may_replace
from listmakers import (
    ALWAYS, EIGHT, GRID, LIST, LISTS, NEVER, TWICE, UNDER, made_lists, slow_failing, slow_region, slow_words,
    with_other_words,
)
from makers import Maker, all_states, value
from samples import BIG, BOOLS, COINS, CONDITIONS, COUNTS, FULL, INTEGERS, ITEMS, JUNK, NAMES, NONE, SIX, STEPS

ALL = tuple([(k,) for k in range(5)])
NO_INDEXES = JUNK + NAMES + STEPS + CONDITIONS + BOOLS + (-1, -4, 4, 5, BIG, -BIG, [0], (0,), "0", "check", {}, None)


def replaced(checks, k, condition):
    """The list with this condition in check k."""
    return checks[:k] + (("check", checks[k][1], condition),) + checks[k + 1:]


class FreedomTest(FaultCase):
    def test_example(self):
        self.check_same(freedom(ITEMS, LIST, 2), (((1,),), ((2,), (3,)), ((0,), (4,))))

    def test_each_check_of_a_list_with_distinct_words(self):
        self.check_same(freedom(ITEMS, LIST, 0), (((4,),), ((0,), (1,), (2,), (3,)), ()))
        self.check_same(freedom(k=1, checks=LIST, items=ITEMS), (((0,),), ((1,), (2,), (3,)), ((4,),)))
        # Idle: it need not fail anywhere, but where all ahead of it hold, it has to.
        self.check_same(freedom(ITEMS, LIST, 3), ((), ((2,), (3,)), ((0,), (1,), (4,))))

    def test_each_check_of_lists_with_equal_words(self):
        # Where the last one fails too, the first one may hold only if no other word comes between.
        self.check_same(freedom(ITEMS, TWICE, 0), (((3,), (4,)), ((0,), (1,), (2,)), ()))
        self.check_same(freedom(ITEMS, TWICE, 1), ((), ((0,), (1,), (2,)), ((3,), (4,))))
        self.check_same(freedom(ITEMS, TWICE, 2), ((), ((0,), (1,), (2,)), ((3,), (4,))))
        same = (("check", "a", UNDER), ("check", "a", FULL[2]))
        self.check_same(freedom(ITEMS, same, 0), (((3,),), ((0,), (1,), (2,)), ((4,),)))
        self.check_same(freedom(ITEMS, same, 1), ((), ((0,), (1,), (2,)), ((3,), (4,))))
        # The other word stands ahead of it, or behind it.
        mixed = (("check", "a", UNDER), ("check", "b", FULL[2]), ("check", "a", NONE[2]))
        self.check_same(freedom(ITEMS, mixed, 0), (((3,), (4,)), ((1,), (2,)), ((0,),)))
        self.check_same(freedom(ITEMS, mixed, 1), ((), ((0,), (1,), (2,)), ((3,), (4,))))
        self.check_same(freedom(ITEMS, mixed, 2), (((0,),), ((1,), (2,)), ((3,), (4,))))

    def test_one_check_and_such_as_never_or_always_fail(self):
        self.check_same(freedom(ITEMS, (FULL,), 0), (((4,),), ALL[:4], ()))
        self.check_same(freedom(ITEMS, (NEVER,), 0), ((), ALL, ()))
        self.check_same(freedom(ITEMS, (ALWAYS,), 0), (ALL, (), ()))
        self.check_same(freedom(ITEMS, (ALWAYS, FULL), 1), ((), (), ALL))
        self.check_same(freedom(ITEMS, (FULL, ALWAYS), 0), (((4,),), ALL[:4], ()))
        self.check_same(freedom(ITEMS, (FULL, ALWAYS), 1), (ALL[:4], (), ((4,),)))

    def test_two_items_and_eight_checks(self):
        fail, hold, free = freedom(SIX, GRID, 3)
        self.check_same([fail, hold], [((3, 3),), ((2, 2),)])
        self.assertEqual(free, tuple([state for state in all_states(SIX) if state not in fail + hold]))
        self.check_same(freedom(ITEMS, EIGHT, 7), ((), ((0,),), ((1,), (2,), (3,), (4,))))


class MayReplaceTest(FaultCase):
    def test_conditions(self):
        self.assertIs(may_replace(ITEMS, LIST, 2, LIST[2][2]), True)
        self.assertIs(may_replace(condition=("in", ((2,), (3,))), k=2, checks=LIST, items=ITEMS), True)
        self.assertIs(may_replace(ITEMS, LIST, 2, ("not", ("in", ((1,),)))), True)
        self.assertIs(may_replace(ITEMS, LIST, 2, ("in", ((3,),))), False)
        self.assertIs(may_replace(ITEMS, LIST, 2, ("in", ((1,), (2,), (3,)))), False)
        self.assertIs(may_replace(ITEMS, LIST, 3, ("=", 0, 0)), True)
        self.assertIs(may_replace(ITEMS, LIST, 3, ("=", 0, 1)), False)
        self.assertIs(may_replace(ITEMS, LIST, 1, ("or", ("<", 0, COINS), ("=", COINS, 4))), True)

    def test_one_state_is_enough(self):
        for items, checks in LISTS:
            for k in range(len(checks)):
                states = all_states(items)
                own = tuple([state for state in states if value(items, state, checks[k][2])])
                fail, hold, free = freedom(items, checks, k)
                self.assertIs(may_replace(items, checks, k, ("in", own)), True)
                for state in states:
                    other = tuple(sorted(set(own) ^ {state}))
                    self.assertIs(may_replace(items, checks, k, ("in", other)), state in free)


class ErrorsTest(FaultCase):
    def test_values_that_are_no_indexes(self):
        for k in NO_INDEXES:
            self.check_fault(NotUsable("check", -1), freedom, ITEMS, LIST, k)
            for condition in (FULL[2], None, ("in", ((9,),))):
                self.check_fault(NotUsable("check", -1), may_replace, ITEMS, LIST, k, condition)
        for checks in ((), LIST[:1], TWICE):
            for k in (len(checks), -1, True):
                if k is not True or len(checks) < 2:
                    self.check_fault(NotUsable("check", -1), freedom, ITEMS, checks, k)
        # True is not 1, also where there is an index 1.
        self.check_fault(NotUsable("check", -1), freedom, ITEMS, LIST, True)
        self.check_fault(NotUsable("check", -1), may_replace, ITEMS, LIST, False, FULL[2])
        self.check_fault(NotUsable("check", -1), freedom, ITEMS, (), 0)

    def test_values_that_are_no_conditions(self):
        for condition in JUNK + INTEGERS + NAMES + COUNTS + STEPS + BOOLS:
            for k in (0, 3):
                self.check_fault(UnfitPart(()), may_replace, ITEMS, LIST, k, condition)
        self.check_fault(UnfitPart((1,)), may_replace, ITEMS, LIST, 0, ("not", None))
        self.check_fault(UnfitPart((2,)), may_replace, ITEMS, LIST, 0, ("<", 1, True))
        self.check_fault(UnfitPart((1, 2)), may_replace, ITEMS, LIST, 0, ("not", ("=", COINS, ("item", "a"))))
        self.check_fault(UnfitPart((2,)), may_replace, ITEMS, LIST, 0, ("and", ("in", ((0,), (4,))), ("in", ((0,), (5,)))))
        self.check_fault(UnfitPart(()), may_replace, ITEMS, LIST, 0, ("in", ((0, 0),)))
        self.check_fault(UnfitPart(()), may_replace, ITEMS, LIST, 0, ("in", ((True,),)))
        self.check_fault(UnfitPart((1,)), may_replace, ITEMS, LIST, 0, ("and", 1, 1))


class ChanceTest(FaultCase):
    def setUp(self):
        self.lists = list(LISTS) + made_lists(80) + [(items, with_other_words(row)) for items, row in made_lists(60, seed=3)]

    def test_by_another_way(self):
        for items, checks in self.lists:
            words = slow_words(items, checks)
            for k in range(len(checks)):
                held = slow_words(items, replaced(checks, k, ("=", 0, 0)))
                failed = slow_words(items, replaced(checks, k, ("=", 0, 1)))
                found = {"fail": [], "hold": [], "free": []}
                for n, state in enumerate(all_states(items)):
                    due = "fail" if held[n] != words[n] else "hold" if failed[n] != words[n] else "free"
                    found[due].append(state)
                self.check_same(freedom(items, checks, k), tuple([tuple(rows) for rows in found.values()]))

    def test_exact(self):
        maker = Maker(6)
        many = {True: 0, False: 0}
        for items, checks in self.lists:
            maker.items = items
            for k in range(len(checks)):
                for condition in [maker.condition(1) for _ in range(4)] + [("or", checks[k][2], maker.condition(1))]:
                    due = slow_words(items, replaced(checks, k, condition)) == slow_words(items, checks)
                    many[due] = many[due] + 1
                    self.assertIs(may_replace(items, checks, k, condition), due)
        self.assertGreater(min(many.values()), 100)

    def test_consequences(self):
        for items, checks in self.lists:
            for k in range(len(checks)):
                fail, hold, free = freedom(items, checks, k)
                self.assertEqual(sorted(fail + hold + free), all_states(items))
                self.assertTrue(all(not value(items, state, checks[k][2]) for state in fail))
                self.assertTrue(all(value(items, state, checks[k][2]) for state in hold))

    def test_with_distinct_words(self):
        for items, checks in self.lists:
            checks = with_other_words(checks)
            for k in range(len(checks)):
                fail, hold, free = freedom(items, checks, k)
                self.check_same(fail, slow_region(items, checks, k))
                due = [state for state in all_states(items) if not slow_failing(items, checks[:k + 1], state)]
                self.check_same(hold, tuple(due))

    def test_arguments_stay_as_they_are_and_no_call_hangs_on_an_earlier_one(self):
        told = repr(self.lists)
        rows = [(items, checks, k) for items, checks in self.lists for k in range(len(checks))]
        first = [freedom(*row) for row in rows]
        self.check_same([freedom(*row) for row in rows[::-1]][::-1], first)
        condition = ["not", ["in", []]]
        self.check_fault(UnfitPart(()), may_replace, ITEMS, LIST, 0, condition)
        self.check_same([repr(self.lists), condition], [told, ["not", ["in", []]]])


if __name__ == "__main__":
    unittest.main()
