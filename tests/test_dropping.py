"""[9], [43], [44]: checks that are dropped, and the fewest that leave a program alike."""

import itertools
import unittest

from faultcases import FaultCase
from firstfault.comparing import are_alike
from firstfault.dropping import checks_of, dropped, fewest_checks, may_drop
from firstfault.errors import NoCheck, UnknownKey
from firstfault.running import complaints_by
from makers import keys_of_checks, made_programs, slow_alike, slow_dropped, with_distinct_words
from samples import (
    BAD, CONDITIONS, COINS, FULL, GOOD, INTEGERS, ITEMS, JUNK, LESS, NAMES, NESTED, NESTED_KEYS, NO_PLACES, NONE, PAIR,
    PLACES, STEPS, TILL, coins,
)

SAY = ("say", COINS)
SAME = ("check", "none", ("<", 1, COINS))
TWICE = (ITEMS, (), (SAME, NONE, LESS))
LOW = ("<", COINS, 3)
# Of these the first may not be dropped alone, but with the second.
ABA = coins(("check", "a", LOW), ("check", "b", LOW), ("check", "a", LOW))
FIRST, SECOND, THIRD = (None, (0,)), (None, (1,)), (None, (2,))


class ChecksOfTest(FaultCase):
    def test_the_till(self):
        self.check_same(checks_of(program=TILL), ((None, (0,)), (None, (1, 0, 0))))
        self.check_same(checks_of(NESTED), ((None, (0, 1, 1)),))

    def test_no_checks(self):
        self.check_same(checks_of(coins()), ())
        self.check_same(checks_of(coins(SAY, ("call", "a"), calls=(("a", (LESS,)), ("b", ())))), ())

    def test_those_of_calls_come_first(self):
        calls = (("b", (SAY, FULL)), ("a", (("if", LOW, (BAD,), (SAY, ("repeat", 1, (BAD,)), BAD)), BAD)))
        due = (("b", (1,)), ("a", (0, 0, 0)), ("a", (0, 1, 1, 0, 0)), ("a", (0, 1, 2)), ("a", (1,)), FIRST)
        self.check_same(checks_of(coins(FULL, SAY, calls=calls)), due)


class DroppedTest(FaultCase):
    def test_the_till(self):
        full, repeat, say = TILL[2]
        self.check_same(dropped(TILL), TILL)
        self.check_same(dropped(TILL, (None, (0,))), (ITEMS, (), (repeat, say)))
        self.check_same(dropped(TILL, (None, (1, 0, 0))), (ITEMS, (), (full, ("repeat", 2, (LESS,)), say)))
        both = (ITEMS, (), (("repeat", 2, (LESS,)), say))
        for keys in (((None, (0,)), (None, (1, 0, 0))), ((None, (1, 0, 0)), (None, (0,)))):
            self.check_same(dropped(TILL, *keys), both)
            self.check_same(dropped(TILL, *keys * 3), both)

    def test_the_steps_that_are_left_close_up(self):
        program = coins(FULL, SAY, NONE, BAD, LESS, GOOD)
        keys = [(None, (k,)) for k in (0, 2, 3, 5)]
        for some in itertools.permutations(keys):
            self.check_same(dropped(program, *some), coins(SAY, LESS))
        self.check_same(dropped(program, keys[3], keys[1], keys[3]), coins(FULL, SAY, BAD, LESS))
        self.check_same(dropped(coins(BAD, BAD, BAD), *keys[:1], (None, (1,)), (None, (2,))), coins())

    def test_a_check_ahead_of_steps_with_checks_in_them(self):
        inner = ("if", LOW, (BAD, SAY, FULL), (("repeat", 2, (NONE, GOOD)),))
        program = coins(FULL, inner, BAD)
        keys = ((None, (0,)), (None, (1, 0, 0)), (None, (1, 1, 0, 0, 1)))
        due = coins(("if", LOW, (SAY, FULL), (("repeat", 2, (NONE,)),)), BAD)
        for some in itertools.permutations(keys):
            self.check_same(dropped(program, *some), due)

    def test_calls(self):
        program = coins(("call", "a"), FULL, ("call", "a"), calls=(("a", (NONE, LESS)), ("b", (BAD,))))
        self.check_same(dropped(program, ("a", (0,))), program[:1] + ((("a", (LESS,)), ("b", (BAD,))),) + program[2:])
        self.check_same(dropped(program, ("b", (0,)), (None, (1,))), (
            ITEMS, (("a", (NONE, LESS)), ("b", ())), (("call", "a"), ("call", "a"))))

    def test_may_drop(self):
        self.assertIs(may_drop(TILL), True)
        self.assertIs(may_drop(TILL, (None, (0,))), False)
        self.assertIs(may_drop(TILL, (None, (1, 0, 0))), False)
        self.assertIs(may_drop(coins(FULL, FULL, GOOD), FIRST), True)
        self.assertIs(may_drop(coins(FULL, FULL, GOOD), THIRD, SECOND, SECOND), True)
        self.assertIs(may_drop(coins(FULL, FULL, GOOD), FIRST, SECOND), False)
        # Only what is told counts, not the end.
        self.assertIs(may_drop(coins(NONE, LESS, GOOD, BAD[:1] + ("none",) + BAD[2:]), FIRST), True)

    def test_less_may_be_dropped_alone_than_together(self):
        self.check_same([may_drop(TWICE, FIRST), may_drop(TWICE, SECOND)], [False, True])
        self.check_same([may_drop(ABA, key) for key in (FIRST, SECOND, THIRD)], [False, True, True])
        self.check_same([may_drop(ABA, FIRST, SECOND), may_drop(ABA, FIRST, THIRD)], [True, False])

    def test_what_is_said_counts(self):
        program = coins(("check", "a", LOW), SAY, ("check", "a", LOW))
        self.check_same([may_drop(program, FIRST), may_drop(program, THIRD)], [False, True])

    def test_values_that_are_no_keys(self):
        check = (None, (0, 1, 1))
        for function in (dropped, may_drop):
            for key in NO_PLACES + PLACES + JUNK + INTEGERS + NAMES + STEPS + CONDITIONS:
                self.check_fault(UnknownKey(key), function, NESTED, key)
                self.check_fault(UnknownKey(key), function, NESTED, check, key)
                # Ahead of NoCheck, and the first of several.
                self.check_fault(UnknownKey(key), function, NESTED, (None, (0,)), key, check)
                self.check_fault(UnknownKey(key), function, NESTED, key, (None, (0,)), (None, (9,)))
                self.check_fault(UnknownKey(key), function, NESTED, (None, (0,)), key, [None, [0]])

    def test_keys_that_are_not_those_of_checks(self):
        check = (None, (0, 1, 1))
        for function in (dropped, may_drop):
            for key in NESTED_KEYS:
                if key != check:
                    self.check_fault(NoCheck(key), function, NESTED, key)
                    self.check_fault(NoCheck(key), function, NESTED, check, key, check, (None, tuple([1])))

    def test_arguments(self):
        with self.assertRaises(TypeError):
            dropped(TILL, keys=(FIRST,))
        with self.assertRaises(TypeError):
            may_drop(TILL, key=FIRST)


class FewestChecksTest(FaultCase):
    def test_example(self):
        self.check_same([checks_of(TILL), fewest_checks(TWICE), may_drop(TWICE, (None, (0,)))],
                        [((None, (0,)), (None, (1, 0, 0))), (((None, (0,)),),), False])

    def test_no_check_is_needed(self):
        self.check_same(fewest_checks(coins()), ((),))
        self.check_same(fewest_checks(coins(SAY, LESS)), ((),))
        self.check_same(fewest_checks(NESTED), ((),))
        self.check_same(fewest_checks(program=coins(GOOD, ("repeat", 0, (BAD,)), calls=(("a", (BAD,)),))), ((),))

    def test_distinct_words(self):
        self.check_same(fewest_checks(TILL), (((None, (0,)), (None, (1, 0, 0))),))
        self.check_same(fewest_checks(coins(FULL, NONE, GOOD, BAD)), ((FIRST, SECOND, (None, (3,))),))

    def test_several_sets_in_order(self):
        self.check_same(fewest_checks(ABA), ((FIRST,), (THIRD,)))
        self.check_same(fewest_checks(coins(FULL, FULL, FULL)), ((FIRST,), (SECOND,), (THIRD,)))
        one, other = [("check", "a", ("not", ("in", (state,)))) for state in ((0,), (1,))]
        keys = [(None, (k,)) for k in range(4)]
        due = ((keys[0], keys[1]), (keys[0], keys[3]), (keys[1], keys[2]), (keys[2], keys[3]))
        self.check_same(fewest_checks(coins(one, other, one, other)), due)

    def test_those_of_calls_are_less(self):
        program = coins(FULL, ("call", "a"), calls=(("a", (FULL,)),))
        self.check_same(fewest_checks(program), ((("a", (0,)),), (FIRST,)))
        program = coins(("repeat", 2, (LESS, NONE)), ("if", LOW, (NONE,), (NONE,)), calls=(("a", (BAD,)),))
        self.check_same(fewest_checks(program), (((None, (0, 0, 1)),), ((None, (1, 0, 0)),)))

    def test_a_check_behind_what_is_said_is_another_one(self):
        self.check_same(fewest_checks(coins(FULL, SAY, FULL)), ((FIRST,),))
        self.check_same(fewest_checks(coins(FULL, LESS, FULL)), ((FIRST,),))
        later = coins(("repeat", 2, (FULL, ("say", 1), ("set", "coins", 4))))
        self.check_same(fewest_checks(later), (((None, (0, 0, 0)),),))

    def test_a_check_that_fails_in_a_later_round_alone(self):
        # From 4 the check fails in the first round, from 3 in the second one; then the last check fails, too.
        more = ("set", "coins", ("+", COINS, 1))
        program = coins(("repeat", 2, (FULL, more)), ("check", "full", ("<", COINS, 4)))
        self.check_same(fewest_checks(program), (((None, (1,)),),))
        # Behind what is said it tells something else.
        program = coins(("repeat", 2, (FULL, more, SAY)), ("check", "full", ("<", COINS, 4)))
        self.check_same(fewest_checks(program), (((None, (0, 0, 0)), (None, (1,))),))

    def test_more_than_the_limits(self):
        checks = [("check", "a", ("not", ("=", COINS, k // 2))) for k in range(10)]
        found = fewest_checks(coins(*checks))
        self.assertEqual(len(found), 32)
        self.check_same(found[0], tuple([(None, (k,)) for k in (0, 2, 4, 6, 8)]))
        self.check_same(found[-1], tuple([(None, (k,)) for k in (1, 3, 5, 7, 9)]))


class ChanceTest(FaultCase):
    def setUp(self):
        self.programs = [TILL, NESTED, TWICE, ABA] + made_programs(200) + [
            program[:2] + (program[2] + program[2],) for program in made_programs(60, seed=3)]

    def test_exact(self):
        for program in self.programs:
            keys = keys_of_checks(program)
            self.check_same(checks_of(program), tuple(keys))
            if len(keys) > 7:
                continue
            enough = []
            for many in range(len(keys) + 1):
                for kept in itertools.combinations(keys, many):
                    gone = [key for key in keys if key not in kept]
                    left = slow_dropped(program, gone)
                    self.check_same(dropped(program, *gone[::-1]), left)
                    alike = slow_alike(program, left)
                    self.assertIs(may_drop(program, *gone), alike)
                    if alike:
                        enough.append(kept)
            fewest = min([len(kept) for kept in enough])
            self.check_same(fewest_checks(program), tuple([kept for kept in enough if len(kept) == fewest]))

    def test_with_distinct_words_there_is_one_set(self):
        for program in self.programs:
            program = with_distinct_words(program)
            due = tuple([key for key in checks_of(program) if complaints_by(program, key)])
            self.check_same(fewest_checks(program), (due,))

    def test_behind_the_fewest_none_can_be_dropped(self):
        for program in self.programs:
            kept = fewest_checks(program)[0]
            left = dropped(program, *[key for key in checks_of(program) if key not in kept])
            self.assertTrue(are_alike(program, left))
            self.check_same(fewest_checks(left), (checks_of(left),))

    def test_arguments_stay_as_they_are_and_no_call_hangs_on_an_earlier_one(self):
        told = repr(self.programs)
        first = [(checks_of(program), fewest_checks(program)) for program in self.programs]
        again = [(checks_of(program), fewest_checks(program)) for program in self.programs[::-1]]
        self.assertEqual(again[::-1], first)
        self.assertEqual(repr(self.programs), told)
        key = [None, [0]]
        self.check_fault(UnknownKey(key), dropped, TILL, key)
        self.assertEqual([key, checks_of((PAIR, (), ()))], [[None, [0]], ()])


if __name__ == "__main__":
    unittest.main()
