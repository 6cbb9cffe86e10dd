"""[9], [35], [36], [39]: orders of a list that tell the same, and their work."""

import inspect
import itertools
import unittest

from faultcases import FaultCase
from firstfault.errors import NotUsable
from firstfault.lists import least_list
from firstfault.orders import least_work, may_order, must_ahead, orders, work
from listmakers import (
    ALWAYS, EIGHT, GRID, LIST, LISTS, NEVER, TWICE, made_lists, slow_failing, slow_region, slow_words, some_of,
    with_other_words,
)
from makers import all_states
from samples import BIG, BOOLS, CONDITIONS, FULL, INTEGERS, ITEMS, JUNK, NAMES, NONE, SIX, STEPS

MOST = 6


def slow_work(items, checks):
    asked = 0
    for state in all_states(items):
        failing = slow_failing(items, checks, state)
        asked = asked + (failing[0] + 1 if failing else len(checks))
    return asked


def slow_orders(items, checks):
    rows = itertools.permutations(range(len(checks)))
    return [row for row in rows if slow_words(items, some_of(checks, row)) == slow_words(items, checks)]


def keeps_ahead(pairs, order):
    return all(order.index(i) < order.index(j) for i, j in pairs)


class MustAheadTest(FaultCase):
    def test_pairs(self):
        self.check_same(must_ahead(ITEMS, LIST), ((1, 2), (1, 3)))
        self.check_same(must_ahead(checks=LIST[::-1], items=ITEMS), ((0, 1), (0, 2)))
        # Also checks with one word.
        self.check_same(must_ahead(ITEMS, TWICE), ((0, 1), (0, 2)))
        self.check_same(must_ahead(ITEMS, (FULL, NEVER, NONE)), ())
        self.check_same(must_ahead(ITEMS, (NEVER, ALWAYS, FULL, NEVER, NONE)), ((1, 2), (1, 4)))
        self.check_same(must_ahead(ITEMS, EIGHT), tuple(sorted([(i, j) for i in range(4) for j in range(i + 1, 8) if self.fail(i, j)])))

    def fail(self, i, j):
        """Whether check j of EIGHT fails where check i is the first that does."""
        return 4 - j % 4 <= 4 - i

    def test_without_checks_or_with_one(self):
        for items in (ITEMS, SIX):
            self.check_same([must_ahead(items, ()), must_ahead(items, (ALWAYS,)), must_ahead(items, (NEVER,))], [(), (), ()])


class MayOrderTest(FaultCase):
    def test_orders(self):
        self.assertIs(may_order(ITEMS, (), ()), True)
        self.assertIs(may_order(ITEMS, LIST, (0, 1, 2, 3)), True)
        self.assertIs(may_order(order=(1, 2, 0, 3), checks=LIST, items=ITEMS), True)
        self.assertIs(may_order(ITEMS, LIST, (0, 2, 1, 3)), False)
        self.assertIs(may_order(ITEMS, LIST, (3, 2, 1, 0)), False)
        # Checks with one word may change their places, though the pair must stand ahead.
        self.check_same([may_order(ITEMS, TWICE, order) for order in itertools.permutations(range(3))],
                        [True, True, False, False, True, True])

    def test_values_that_are_no_orders(self):
        for order in JUNK + INTEGERS + NAMES + STEPS + CONDITIONS + BOOLS:
            self.check_fault(NotUsable("order", -1), may_order, ITEMS, LIST, order)
            if order != ():
                self.check_fault(NotUsable("order", -1), may_order, ITEMS, (), order)
        for order in (
            (0, 1, 2), (0, 1, 2, 2), (0, 1, 2, 4), (1, 2, 3, 4), (0, 1, 2, 3, 4), (0, 1, 2, 3, 3), (-1, 0, 1, 2),
            (0, 1, 2, -1),
            [0, 1, 2, 3], (0, True, 2, 3), (False, 1, 2, 3), (0, "1", 2, 3), (0, None, 2, 3), ((0, 1, 2, 3),),
            (0, 1, 2, BIG),
            (0, (1,), 2, 3), (0, [1], 2, 3), "0123", (1, True, 2, 3), range(4), {0: 0},
        ):
            self.check_fault(NotUsable("order", -1), may_order, ITEMS, LIST, order)
        self.check_fault(NotUsable("order", -1), may_order, ITEMS, (FULL,), (False,))
        self.check_fault(NotUsable("order", -1), may_order, ITEMS, (FULL, NONE), (True, 0))


class OrdersTest(FaultCase):
    def test_a_generator(self):
        found = orders(ITEMS, LIST[:3])
        self.assertTrue(inspect.isgenerator(found))
        self.check_same(list(found), [(0, 1, 2), (1, 0, 2), (1, 2, 0)])
        self.check_same(list(found), [])
        self.check_same(list(orders(checks=TWICE, items=ITEMS)), [(0, 1, 2), (0, 2, 1), (2, 0, 1), (2, 1, 0)])

    def test_without_checks_or_with_one(self):
        self.check_same([list(orders(ITEMS, ())), list(orders(ITEMS, (ALWAYS,)))], [[()], [(0,)]])

    def test_all_orders(self):
        checks = (NEVER,) * 6
        self.check_same(list(orders(ITEMS, checks)), list(itertools.permutations(range(6))))

    def test_two_generators_at_once(self):
        due = slow_orders(ITEMS, (FULL, NEVER, NONE, ALWAYS))
        self.assertGreater(len(due), 3)
        one, other = orders(ITEMS, (FULL, NEVER, NONE, ALWAYS)), orders(ITEMS, TWICE)
        found = []
        for order in one:
            found.append(order)
            if len(found) == 2:
                self.check_same(next(other), (0, 1, 2))
        self.check_same(found, due)
        self.check_same(list(other), [(0, 2, 1), (2, 0, 1), (2, 1, 0)])


class WorkTest(FaultCase):
    def test_example(self):
        found = [must_ahead(ITEMS, LIST), work(ITEMS, LIST), work(ITEMS, LIST[:3]), least_work(ITEMS, LIST[:3])]
        self.check_same(found, [((1, 2), (1, 3)), 14, 12, (12, ((0, 1, 2), (1, 0, 2), (1, 2, 0)))])

    def test_work(self):
        self.check_same([work(ITEMS, ()), work(SIX, ()), work(ITEMS, (ALWAYS,)), work(ITEMS, (NEVER,))], [0, 0, 5, 5])
        self.check_same([work(ITEMS, (NEVER, ALWAYS)), work(checks=(ALWAYS, NEVER), items=ITEMS), work(SIX, GRID[:1])], [10, 5, 36])

    def test_least_work(self):
        self.check_same(least_work(ITEMS, ()), (0, ((),)))
        self.check_same(least_work(checks=(ALWAYS,), items=SIX), (36, ((0,),)))
        # What never fails is asked last; what fails most often comes as early as it may.
        self.check_same(least_work(ITEMS, (NEVER, ALWAYS)), (5, ((1, 0),)))
        self.check_same(least_work(ITEMS, (FULL, NEVER, TWICE[1])), (12, ((0, 2, 1),)))
        self.check_same(least_work(ITEMS, (FULL, ("check", "full", TWICE[1][2]), NEVER)), (11, ((1, 0, 2), (1, 2, 0))))


class ChanceTest(FaultCase):
    def setUp(self):
        self.lists = [(items, checks[:MOST]) for items, checks in LISTS] + made_lists(60, most=4) + made_lists(8, seed=7, most=6)
        self.lists = self.lists + [(items, with_other_words(row)) for items, row in made_lists(40, seed=3, most=4)]

    def test_must_ahead(self):
        for items, checks in self.lists:
            due = set()
            for i in range(len(checks)):
                for state in slow_region(items, checks, i):
                    due.update([(i, j) for j in slow_failing(items, checks, state) if j != i])
            self.check_same(must_ahead(items, checks), tuple(sorted(due)))

    def test_exact(self):
        for items, checks in self.lists:
            due = slow_orders(items, checks)
            self.check_same(list(orders(items, checks)), due)
            for order in itertools.permutations(range(len(checks))):
                self.assertIs(may_order(items, checks, order), order in due)

    def test_work(self):
        for items, checks in self.lists:
            self.check_same(work(items, checks), slow_work(items, checks))
            rows = [(slow_work(items, some_of(checks, order)), order) for order in slow_orders(items, checks)]
            least = min(rows)[0]
            self.check_same(least_work(items, checks), (least, tuple([order for many, order in rows if many == least])))

    def test_consequences(self):
        for items, checks in self.lists:
            pairs = must_ahead(items, checks)
            found = list(orders(items, checks))
            self.assertTrue(keeps_ahead(pairs, tuple(range(len(checks)))))
            for order in itertools.permutations(range(len(checks))):
                if keeps_ahead(pairs, order):
                    self.assertIn(order, found)
            left = least_list(items, checks)
            self.assertLessEqual(work(items, left), work(items, checks))
            kept = [k for k in range(len(checks)) if slow_region(items, checks, k)]
            due = [(kept.index(i), kept.index(j)) for i, j in pairs if i in kept and j in kept]
            self.check_same(must_ahead(items, left), tuple(due))

    def test_with_distinct_words_no_other_order_tells_the_same(self):
        for items, checks in self.lists:
            checks = with_other_words(checks)
            pairs = must_ahead(items, checks)
            due = [order for order in itertools.permutations(range(len(checks))) if keeps_ahead(pairs, order)]
            self.check_same(list(orders(items, checks)), due)

    def test_arguments_stay_as_they_are_and_no_call_hangs_on_an_earlier_one(self):
        told = repr(self.lists)
        first = [(list(orders(*row)), least_work(*row)) for row in self.lists]
        again = [(list(orders(*row)), least_work(*row)) for row in self.lists[::-1]][::-1]
        order = [0, [1]]
        self.check_fault(NotUsable("order", -1), may_order, ITEMS, LIST, order)
        self.check_same([again, repr(self.lists), order], [first, told, [0, [1]]])


if __name__ == "__main__":
    unittest.main()
