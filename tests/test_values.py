"""[3], [4], [13]: the values of numbers, the truth of conditions, and states behind a "set"."""

import unittest

from firstfault.values import holds_in, put_in, value_in
from makers import all_states, made_programs, value
from samples import BIG, COINS, ITEMS, LESS, NONE, PAIR, STATE_SETS, nested

A, B = ("item", "a"), ("item", "b")
SIX = (("a", 0, 5), ("b", 0, 5))
YES, NO = ("=", 1, 1), ("<", 1, 1)


class NumbersTest(unittest.TestCase):
    def check_all(self, items, state, rows):
        for count, due in rows:
            self.assertEqual(repr(value_in(items, state, count)), repr(due), count)

    def test_integers(self):
        self.check_all(ITEMS, (2,), [(n, n) for n in (0, 1, -1, 20, -20, BIG, -BIG)])

    def test_items(self):
        self.check_all(ITEMS, (3,), [(COINS, 3)])
        self.check_all(PAIR, (-2, 0), [(A, -2), (B, 0)])
        self.check_all(SIX, (4, 5), [(A, 4), (B, 5)])
        three = (("a", 0, 9), ("item", 0, 9), ("z", 0, 9))
        self.check_all(three, (7, 8, 9), [(("item", "a"), 7), (("item", "item"), 8), (("item", "z"), 9)])

    def test_words(self):
        rows = [
            (("+", 2, 3), 5), (("-", 2, 3), -1), (("-", 3, 2), 1), (("*", 2, 3), 6), (("*", -2, 3), -6),
            (("*", 0, BIG), 0),
            (("+", A, B), 9), (("-", A, B), -1), (("-", B, A), 1), (("*", A, B), 20), (("+", BIG, BIG), 2 * BIG),
            (("-", -BIG, BIG), -2 * BIG), (("*", BIG, -BIG), -BIG * BIG),
        ]
        self.check_all(SIX, (4, 5), rows)

    def test_words_in_words(self):
        rows = [
            (("-", ("-", 1, 2), 3), -4), (("-", 1, ("-", 2, 3)), 2), (("*", ("+", A, 1), ("-", B, 2)), 15),
            (("+", ("*", A, A), ("*", B, B)), 41), (nested(A, lambda c: ("+", c, 1), 39), 43),
            (nested(A, lambda c: ("-", 1, c), 39), -3),
        ]
        self.check_all(SIX, (4, 5), rows)

    def test_names_of_arguments(self):
        self.assertEqual(value_in(count=("-", COINS, 1), state=(4,), items=ITEMS), 3)


class ConditionsTest(unittest.TestCase):
    def check_all(self, items, state, right, wrong):
        for condition in right:
            self.assertIs(holds_in(items, state, condition), True, condition)
        for condition in wrong:
            self.assertIs(holds_in(items, state, condition), False, condition)

    def test_comparisons(self):
        right = [("=", 1, 1), ("=", COINS, 2), ("<", 1, 2), ("<", COINS, 3), ("<", -BIG, BIG), ("=", ("+", COINS, 2), 4)]
        wrong = [("=", 1, 2), ("=", COINS, 3), ("<", 2, 1), ("<", 2, 2), ("<", COINS, 2), ("<", BIG, -BIG), ("=", BIG, -BIG)]
        self.check_all(ITEMS, (2,), right, wrong)

    def test_and(self):
        self.check_all(ITEMS, (0,), [("and", YES, YES)], [("and", YES, NO), ("and", NO, YES), ("and", NO, NO)])

    def test_or(self):
        self.check_all(ITEMS, (0,), [("or", YES, YES), ("or", YES, NO), ("or", NO, YES)], [("or", NO, NO)])

    def test_not(self):
        self.check_all(ITEMS, (0,), [("not", NO), ("not", ("not", YES))], [("not", YES), ("not", ("not", NO))])

    def test_in_one_state_or_none(self):
        self.check_all(ITEMS, (2,), [("in", ((2,),)), ("not", ("in", ()))], [("in", ()), ("in", ((1,),)), ("in", ((3,),))])
        self.check_all(PAIR, (-2, 0), [("in", ((-2, 0),)), ("in", ((-2, 0), (1, 0)))], [("in", ((-1, 0), (0, 0), (2, 0)))])

    def test_in_thirty_six_states(self):
        rows = STATE_SETS[-1]
        self.assertEqual([len(rows), list(rows)], [36, all_states(SIX)])
        for k, state in enumerate(rows):
            self.check_all(SIX, state, [("in", rows), ("in", (state,))], [("in", rows[:k] + rows[k + 1:]), ("in", ())])

    def test_deep(self):
        right = [nested(YES, lambda c: ("not", c), 40), nested(YES, lambda c: ("and", c, YES), 39)]
        wrong = [nested(YES, lambda c: ("not", c), 39), nested(NO, lambda c: ("or", NO, c), 39)]
        self.check_all(ITEMS, (0,), right, wrong)

    def test_names_of_arguments(self):
        self.assertIs(holds_in(condition=NONE[2], state=(0,), items=ITEMS), False)


class PutTest(unittest.TestCase):
    def check_all(self, items, state, name, rows):
        for count, due in rows:
            self.assertEqual(repr(put_in(items, state, name, count)), repr(due), count)

    def test_within_the_range_at_its_ends_and_beyond(self):
        rows = [(0, (0,)), (1, (1,)), (3, (3,)), (4, (4,)), (5, (4,)), (BIG, (4,)), (-1, (0,)), (-BIG, (0,))]
        self.check_all(ITEMS, (2,), "coins", rows)
        self.check_all(PAIR, (0, 0), "a", [(-2, (-2, 0)), (2, (2, 0)), (-3, (-2, 0)), (3, (2, 0)), (1, (1, 0))])

    def test_an_item_with_one_state(self):
        self.check_all(PAIR, (1, 0), "b", [(n, (1, 0)) for n in (-BIG, -1, 0, 1, BIG)])
        self.check_all((("a", -3, -3),), (-3,), "a", [(n, (-3,)) for n in (-4, -3, -2, 0, 3)])

    def test_ranges_below_and_above_0(self):
        self.check_all((("a", -5, -3),), (-4,), "a", [(0, (-3,)), (-3, (-3,)), (-4, (-4,)), (-6, (-5,))])
        self.check_all((("a", 3, 5),), (4,), "a", [(0, (3,)), (3, (3,)), (5, (5,)), (6, (5,)), (-4, (3,))])

    def test_only_this_item_gets_another_integer(self):
        three = (("a", 0, 9), ("b", 0, 9), ("c", 0, 9))
        for name, due in (("a", (8, 2, 3)), ("b", (1, 8, 3)), ("c", (1, 2, 8))):
            self.check_all(three, (1, 2, 3), name, [(8, due)])

    def test_the_number_is_that_of_the_state_before(self):
        self.check_all(ITEMS, (3,), "coins", [(LESS[2], (2,)), (("+", COINS, COINS), (4,)), (("-", 0, COINS), (0,))])
        self.check_all(SIX, (1, 4), "a", [(B, (4, 4)), (("-", A, B), (0, 4)), (("*", B, B), (5, 4))])
        self.check_all(SIX, (1, 4), "b", [(A, (1, 1)), (("+", A, B), (1, 5))])

    def test_names_of_arguments_and_the_state_stays(self):
        state = (3,)
        self.assertEqual(put_in(count=1, name="coins", state=state, items=ITEMS), (1,))
        self.assertEqual([state, ITEMS], [(3,), (("coins", 0, 4),)])


class ChanceTest(unittest.TestCase):
    def test_numbers_and_conditions_of_many_programs(self):
        for items, calls, steps in made_programs(150):
            for state in all_states(items):
                for step in steps:
                    if step[0] == "check":
                        self.assertIs(holds_in(items, state, step[2]), value(items, state, step[2]))
                    elif step[0] == "say":
                        self.assertEqual(value_in(items, state, step[1]), value(items, state, step[1]))


if __name__ == "__main__":
    unittest.main()
