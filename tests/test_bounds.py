"""[9], [38], [39]: plain conditions and their fewest bounds."""

import unittest

from faultcases import FaultCase
from firstfault.bounds import bar_state, bounds_condition, fewest_bounds, fewest_plain
from firstfault.conditions import is_condition, lets_condition
from firstfault.errors import NotUsable
from firstfault.freedoms import freedom, may_replace
from listmakers import ALWAYS, GRID, LIST, LISTS, NEVER, TWICE, index_sets, made_lists
from makers import Maker, all_states, value
from samples import BIG, BOOLS, INTEGERS, ITEMS, JUNK, NAMES, SIX, STEPS

COIN_LEAST, COIN_MOST = [("coins", word, 2) for word in ("least", "most")]
ALL = tuple([(k,) for k in range(5)])


def coin(*numbers):
    return tuple([(k,) for k in numbers])


def is_true(items, bounds, state):
    own = {name: number for (name, _, _), number in zip(items, state)}
    return all([own[name] >= n if word == "least" else own[name] <= n for name, word, n in bounds])


def slow_hull(items, hold):
    found = []
    for k, (name, low, high) in enumerate(items):
        column = sorted([state[k] for state in hold]) or [high + 1, low - 1]
        found.extend([(name, "least", column[0]), (name, "most", column[-1])])
    return tuple(sorted(found))


def slow_fewest(items, fail, hold):
    hull = slow_hull(items, hold)
    found = []
    for indexes in index_sets(len(hull)):
        bounds = tuple([hull[k] for k in indexes])
        if found and len(found[0]) < len(bounds):
            break
        if all(is_true(items, bounds, state) for state in hold) and not any(is_true(items, bounds, state) for state in fail):
            found.append(bounds)
    return tuple(found) if found else None


class FewestBoundsTest(FaultCase):
    def check_bounds(self, items, fail, hold, due, bar=None):
        self.check_same(fewest_bounds(items, fail, hold), due)
        self.check_same(slow_fewest(items, fail, hold), due)
        self.check_same(bar_state(items, fail, hold), bar)

    def test_example(self):
        self.check_bounds(ITEMS, ((0,), (4,)), ((2,),), ((("coins", "least", 2), ("coins", "most", 2)),))
        self.check_bounds(ITEMS, ((2,),), ((1,), (3,)), None, (2,))

    def test_nothing_fails(self):
        for hold in ((), coin(2), coin(0, 4), ALL):
            self.check_bounds(ITEMS, (), hold, ((),))
        self.check_bounds(SIX, (), (), ((),))
        self.check_bounds(SIX, (), ((1, 2), (3, 0)), ((),))

    def test_nothing_holds(self):
        due = ((("coins", "least", 5),), (("coins", "most", -1),))
        for fail in (coin(0), coin(1, 3), ALL):
            self.check_bounds(ITEMS, fail, (), due)
        due = ((("a", "least", 6),), (("a", "most", -1),), (("b", "least", 6),), (("b", "most", -1),))
        self.check_bounds(SIX, ((0, 0), (5, 5)), (), due)
        self.check_bounds((("a", -3, -2), ("b", 7, 9)), ((-2, 8),), (), (
            (("a", "least", -1),), (("a", "most", -4),), (("b", "least", 10),), (("b", "most", 6),)))

    def test_one_bound_is_enough(self):
        self.check_bounds(ITEMS, coin(0, 1), coin(2, 4), (((COIN_LEAST),),))
        self.check_bounds(ITEMS, coin(3, 4), coin(0, 2), (((COIN_MOST),),))
        self.check_bounds(ITEMS, coin(4), coin(2), ((COIN_MOST,),))
        self.check_bounds(ITEMS, coin(0, 3), coin(4), ((("coins", "least", 4),),))

    def test_several_sets_in_order(self):
        due = ((("a", "least", 2),), (("b", "most", 3),))
        self.check_bounds(SIX, ((1, 4),), ((2, 3),), due)
        due = ((("a", "most", 2),), (("b", "least", 3),))
        self.check_bounds(SIX, ((3, 2),), ((2, 3),), due)
        due = ((("a", "least", 2), ("a", "most", 2)), (("a", "least", 2), ("b", "least", 3)))
        self.check_bounds(SIX, ((1, 3), (3, 2)), ((2, 3),), due)
        due = ((("a", "least", 2), ("b", "least", 3)),)
        self.check_bounds(SIX, ((1, 3), (2, 2)), ((2, 3), (4, 5)), due)

    def test_three_and_four_bounds(self):
        cross = ((1, 2), (2, 1), (2, 3), (3, 2))
        four = (("a", "least", 2), ("a", "most", 2), ("b", "least", 2), ("b", "most", 2))
        self.check_bounds(SIX, cross, ((2, 2),), (four,))
        self.check_bounds(SIX, cross[1:], ((2, 2),), (four[1:],))

    def test_no_bounds_do(self):
        self.check_bounds(ITEMS, coin(1, 2, 3), coin(0, 4), None, (1,))
        self.check_bounds(ITEMS, coin(0, 3), coin(1, 4), None, (3,))
        self.check_bounds(SIX, ((0, 0), (1, 1), (2, 2)), ((1, 2), (2, 1)), None, (1, 1))
        self.check_bounds(SIX, ((1, 2),), ((0, 2), (2, 2)), None, (1, 2))

    def test_arguments(self):
        self.check_same(fewest_bounds(hold=coin(2), fail=coin(4), items=ITEMS), ((COIN_MOST,),))
        self.check_same(bar_state(hold=coin(1, 3), fail=coin(2), items=ITEMS), (2,))


class ConditionTest(FaultCase):
    def check_condition(self, items, bounds):
        condition = bounds_condition(bounds)
        self.assertIs(is_condition(condition), True)
        self.assertGreater(lets_condition(items, condition), 0)
        for state in all_states(items):
            self.assertIs(bool(value(items, state, condition)), is_true(items, bounds, state))

    def test_no_bound(self):
        for items in (ITEMS, SIX, (("z", -3, 3),)):
            self.check_condition(items, ())

    def test_one_bound(self):
        for word in ("least", "most"):
            for n in list(range(-2, 8)) + [BIG, -BIG]:
                self.check_condition(ITEMS, (("coins", word, n),))
                self.check_condition(SIX, (("a", word, n),))
                self.check_condition(SIX, (("b", word, n),))
        self.check_condition((("low", -5, -1),), (("low", "least", -3),))

    def test_several_bounds(self):
        four = (("a", "least", 1), ("a", "most", 4), ("b", "least", 2), ("b", "most", 3))
        for indexes in index_sets(4):
            self.check_condition(SIX, tuple([four[k] for k in indexes]))
            self.check_condition(SIX, tuple([four[k] for k in indexes[::-1]]))
        self.check_condition(ITEMS, (COIN_LEAST, COIN_MOST))
        self.check_condition(ITEMS, (("coins", "least", 3), ("coins", "most", 1)))
        self.check_condition(ITEMS, (("coins", "least", 1), ("coins", "least", 3), ("coins", "least", 2)))
        self.check_same(bounds_condition(bounds=()), bounds_condition(()))


class FewestPlainTest(FaultCase):
    def test_example(self):
        self.check_same(fewest_plain(ITEMS, LIST, 2), ((("coins", "least", 2),),))

    def test_each_check(self):
        self.check_same(fewest_plain(ITEMS, LIST, 0), ((("coins", "most", 3),),))
        self.check_same(fewest_plain(k=1, checks=LIST, items=ITEMS), ((("coins", "least", 1),),))
        self.check_same(fewest_plain(ITEMS, LIST, 3), ((),))
        self.check_same(fewest_plain(ITEMS, (NEVER,), 0), ((),))
        self.check_same(fewest_plain(ITEMS, (ALWAYS,), 0), ((("coins", "least", 5),), (("coins", "most", -1),)))
        self.check_same(fewest_plain(ITEMS, TWICE, 0), ((("coins", "most", 2),),))
        self.check_same(fewest_plain(ITEMS, (("check", "a", ("not", ("in", ((2,),)))),), 0), None)
        self.check_same(fewest_plain(ITEMS, (("check", "a", ("in", ((2,),))),), 0), ((COIN_LEAST, COIN_MOST),))

    def test_values_that_are_no_indexes(self):
        for k in JUNK + NAMES + STEPS + BOOLS + INTEGERS[2:] + (4, [0], (0,), None, "0"):
            self.check_fault(NotUsable("check", -1), fewest_plain, ITEMS, LIST, k)
        for k in (0, 1):
            self.check_fault(NotUsable("check", -1), fewest_plain, ITEMS, (), k)


class ChanceTest(FaultCase):
    def setUp(self):
        self.lists = list(LISTS) + made_lists(60)

    def rows(self):
        """Items with two sets of states, with no state in common."""
        maker = Maker(8)
        for _ in range(200):
            maker.program()
            own = {state: maker.chance.random() for state in all_states(maker.items)}
            bar = maker.chance.choice((0.1, 0.3, 0.6))
            fail = tuple([state for state, k in own.items() if k < bar])
            yield maker.items, fail, tuple([state for state, k in own.items() if k > 0.7])

    def test_by_another_way(self):
        many = {True: 0, False: 0}
        for items, fail, hold in self.rows():
            due = slow_fewest(items, fail, hold)
            many[due is None] = many[due is None] + 1
            self.check_same(fewest_bounds(items, fail, hold), due)
            bars = [state for state in fail if is_true(items, slow_hull(items, hold), state)]
            self.check_same(bar_state(items, fail, hold), bars[0] if bars else None)
            self.assertIs(due is None, bars != [])
        self.assertGreater(min(many.values()), 20)

    def test_no_other_bounds_are_fewer(self):
        for items, fail, hold in self.rows():
            found = fewest_bounds(items, fail, hold)
            every = [(name, word, n) for name, low, high in items for word in ("least", "most") for n in range(low - 1, high + 2)]
            none = len(items) * 2 + 1 if found is None else len(found[0])
            for bounds in [()] + [(one,) for one in every] + [(one, other) for one in every for other in every]:
                if len(bounds) < none:
                    does = all(is_true(items, bounds, state) for state in hold)
                    self.assertFalse(does and not any(is_true(items, bounds, state) for state in fail))

    def test_what_is_fewest_may_replace(self):
        for items, checks in self.lists:
            for k in range(len(checks)):
                fail, hold, _ = freedom(items, checks, k)
                found = fewest_plain(items, checks, k)
                self.check_same(found, slow_fewest(items, fail, hold))
                for bounds in found or ():
                    self.assertIs(may_replace(items, checks, k, bounds_condition(bounds)), True)

    def test_arguments_stay_as_they_are_and_no_call_hangs_on_an_earlier_one(self):
        rows = list(self.rows())
        told = repr([rows, self.lists])
        first = [(fewest_bounds(*row), bar_state(*row)) for row in rows]
        self.check_same([(fewest_bounds(*row), bar_state(*row)) for row in rows[::-1]][::-1], first)
        k = [0]
        self.check_fault(NotUsable("check", -1), fewest_plain, SIX, GRID, k)
        self.check_same([repr([rows, self.lists]), k], [told, [0]])


if __name__ == "__main__":
    unittest.main()
