"""[9], [48]: checks that go behind a "set"."""

import itertools
import unittest

from faultcases import FaultCase
from firstfault.errors import NoCheck, NotUsable, UnknownKey
from firstfault.gobehind import gone_behind, may_go_behind
from firstfault.programchecker import lets_program
from makers import (
    Maker, all_states, keys_of_checks, made_programs, rebuilt, slow_equal, slow_run, steps_by_key, value,
    with_distinct_words,
)
from samples import (
    BAD, COINS, FULL, GOOD, INTEGERS, ITEMS, JUNK, LESS, NAMES, NESTED, NESTED_KEYS, NO_PLACES, NONE, PLACES, SIX, STEPS,
    TILL, coins,
)

SAY = ("say", COINS)
MORE = ("set", "coins", ("+", COINS, 1))
TURN = ("set", "coins", ("-", 4, COINS))
INNER = (None, (1, 0, 0))
FIRST, SECOND, THIRD = [(None, (k,)) for k in range(3)]
CHECK = (None, (0, 1, 1))


def moved(word, *states):
    """The check as it stands behind the "set"."""
    return "check", word, ("not", ("in", states))


class GoneBehindTest(FaultCase):
    def check_gone(self, program, key, due):
        self.assertIs(may_go_behind(program, key), True)
        self.check_same(gone_behind(program, key), due)
        self.assertTrue(slow_equal(program, due))
        self.assertEqual(lets_program(due), lets_program(program))

    def check_stays(self, program, key):
        self.assertIs(may_go_behind(program, key), False)
        self.assertIs(gone_behind(program, key), None)

    def test_example(self):
        found = [may_go_behind(TILL, (None, (1, 0, 0))), gone_behind((ITEMS, (), (NONE, MORE)), (None, (0,)))[2][1]]
        self.check_same(found, [False, ("check", "none", ("not", ("in", ((1,),))))])

    def test_whole_programs(self):
        self.check_gone(coins(NONE, MORE), FIRST, coins(MORE, moved("none", (1,))))
        self.check_gone(coins(SAY, FULL, TURN, SAY), SECOND, coins(SAY, TURN, moved("full", (0,)), SAY))
        self.check_gone(coins(("check", "a", ("<", 1, COINS)), TURN), FIRST, coins(TURN, moved("a", (3,), (4,))))
        self.check_gone(coins(BAD, LESS), FIRST, coins(LESS, moved("bad", (0,), (1,), (2,), (3,))))
        items = (("a", -2, 1),)
        low = ("check", "low", ("<", ("item", "a"), 0))
        more = ("set", "a", ("-", 0, ("item", "a")))
        self.check_gone((items, (), (low, more)), FIRST, (items, (), (more, moved("low", (-1,), (0,)))))
        self.check_gone((items, (), (low, ("set", "a", ("-", ("item", "a"), 1)))), FIRST, (
            items, (), (("set", "a", ("-", ("item", "a"), 1)), moved("low", (-1,), (0,)))))

    def test_states_that_become_the_same(self):
        self.check_stays(coins(NONE, LESS), FIRST)
        self.check_stays(coins(FULL, MORE), FIRST)
        self.check_stays(coins(FULL, ("set", "coins", 0)), FIRST)
        # They do, but both fail, or both hold.
        self.check_gone(coins(("check", "a", ("<", 1, COINS)), LESS), FIRST, coins(LESS, moved("a", (0,))))
        self.check_gone(coins(NONE, MORE), FIRST, coins(MORE, moved("none", (1,))))
        self.check_gone(coins(GOOD, ("set", "coins", 0)), FIRST, coins(("set", "coins", 0), moved("good")))
        self.check_gone(coins(BAD, ("set", "coins", 0)), FIRST, coins(("set", "coins", 0), moved("bad", (0,))))

    def test_only_states_with_which_runs_come_count(self):
        over = ("check", "over", ("<", 0, COINS))
        self.check_gone(coins(over, NONE, LESS), SECOND, coins(over, LESS, moved("none")))
        self.check_gone(coins(MORE, NONE, LESS), SECOND, coins(MORE, LESS, moved("none")))
        self.check_stays(coins(LESS, NONE, LESS), SECOND)

    def test_two_items(self):
        other = ("check", "other", ("not", ("=", ("item", "a"), ("item", "b"))))
        self.check_stays((SIX, (), (other, ("set", "a", ("item", "b")))), FIRST)
        turn = ("set", "a", ("-", 5, ("item", "a")))
        due = (SIX, (), (turn, moved("other", *[(k, 5 - k) for k in range(6)])))
        self.check_gone((SIX, (), (other, turn)), FIRST, due)
        row = ("check", "row", ("<", ("item", "b"), 5))
        self.check_gone((SIX, (), (row, ("set", "a", 2))), FIRST, (SIX, (), (("set", "a", 2), moved("row", (2, 5)))))

    def test_in_a_branch(self):
        program = coins(("if", ("<", COINS, 2), (SAY, NONE, LESS, SAY), (FULL, TURN)))
        self.check_stays(program, (None, (0, 0, 1)))
        due = coins(("if", ("<", COINS, 2), (SAY, NONE, LESS, SAY), (TURN, moved("full", (0,)))))
        self.check_gone(program, (None, (0, 1, 0)), due)
        program = coins(("if", ("<", COINS, 2), (NONE, MORE), ()), SAY)
        self.check_gone(program, (None, (0, 0, 0)), coins(("if", ("<", COINS, 2), (MORE, moved("none", (1,))), ()), SAY))

    def test_in_a_repetition(self):
        self.check_stays(TILL, INNER)
        # States of all rounds count: 3 and 4 become the same.
        program = coins(("set", "coins", 2), ("repeat", 3, (SAY, FULL, MORE)))
        self.check_stays(program, (None, (1, 0, 1)))
        program = coins(("set", "coins", 2), ("repeat", 2, (SAY, FULL, MORE)))
        due = coins(("set", "coins", 2), ("repeat", 2, (SAY, MORE, moved("full"))))
        self.check_gone(program, (None, (1, 0, 1)), due)
        program = coins(("repeat", 2, (("check", "a", ("in", ((0,), (1,), (3,)))), TURN)))
        due = coins(("repeat", 2, (TURN, moved("a", (0,), (2,)))))
        self.check_gone(program, (None, (0, 0, 0)), due)

    def test_in_a_call(self):
        calls = (("b", (SAY, FULL, TURN)), ("a", (("call", "b"),)))
        program = coins(("call", "a"), LESS, ("call", "b"), calls=calls)
        due = coins(("call", "a"), LESS, ("call", "b"), calls=(("b", (SAY, TURN, moved("full", (0,)))), calls[1]))
        self.check_gone(program, ("b", (1,)), due)

    def test_a_check_to_which_no_run_comes(self):
        program = coins(("if", ("<", COINS, 9), (), (NONE, LESS)), calls=(("a", (BAD, ("set", "coins", 0))),))
        due = coins(("if", ("<", COINS, 9), (), (LESS, moved("none"))), calls=program[1])
        self.check_gone(program, (None, (0, 1, 0)), due)
        due = (ITEMS, (("a", (("set", "coins", 0), moved("bad"))),), program[2])
        self.check_gone(program, ("a", (0,)), due)

    def test_arguments(self):
        self.assertIs(may_go_behind(key=INNER, program=TILL), False)
        self.check_same(gone_behind(key=FIRST, program=coins(FULL, TURN)), coins(TURN, moved("full", (0,))))


class ErrorsTest(FaultCase):
    def test_values_that_are_no_keys(self):
        for key in NO_PLACES + PLACES + JUNK + INTEGERS + NAMES + STEPS:
            for function in (may_go_behind, gone_behind):
                self.check_fault(UnknownKey(key), function, NESTED, key)

    def test_keys_that_are_not_those_of_checks(self):
        for key in NESTED_KEYS:
            for function in (may_go_behind, gone_behind):
                if key != CHECK:
                    self.check_fault(NoCheck(key), function, NESTED, key)
        # Also where a "set" is behind it.
        for function in (may_go_behind, gone_behind):
            self.check_fault(NoCheck(FIRST), function, coins(SAY, LESS), FIRST)
            self.check_fault(NoCheck(SECOND), function, coins(SAY, LESS, LESS), SECOND)

    def test_no_set_behind_it(self):
        others = (SAY, FULL, ("if", FULL[2], (LESS,), (LESS,)), ("repeat", 1, (LESS,)), ("call", "a"))
        calls = (("a", (LESS,)), ("b", (LESS, FULL)))
        for function in (may_go_behind, gone_behind):
            for other in others:
                self.check_fault(NotUsable("behind", -1), function, coins(FULL, other, LESS, calls=calls), FIRST)
                inner = ("if", FULL[2], (FULL, other), (LESS,))
                self.check_fault(NotUsable("behind", -1), function, coins(inner, LESS, calls=calls), (None, (0, 0, 0)))
            self.check_fault(NotUsable("behind", -1), function, coins(FULL), FIRST)
            self.check_fault(NotUsable("behind", -1), function, coins(LESS, FULL), SECOND)
            self.check_fault(NotUsable("behind", -1), function, coins(LESS, calls=calls), ("b", (1,)))
            # The first of the second steps, and what is behind the step around it, are not behind it.
            inner = ("if", FULL[2], (SAY, FULL), (LESS, LESS, LESS))
            self.check_fault(NotUsable("behind", -1), function, coins(inner, LESS), (None, (0, 0, 1)))
            self.check_fault(NotUsable("behind", -1), function, coins(("repeat", 1, (FULL,)), LESS), (None, (0, 0, 0)))
            self.check_fault(NotUsable("behind", -1), function, NESTED, CHECK)


class ChanceTest(FaultCase):
    def setUp(self):
        self.programs = [TILL] + made_programs(150)
        maker = Maker(7)
        for _ in range(150):
            items, calls, steps = maker.program()
            pair = ("check", "w", maker.condition(2)), ("set", maker.chance.choice(items)[0], maker.number(1))
            self.programs.append((items, calls, steps[:1] + pair + (("repeat", 2, pair[::-1] + pair),) + steps[1:]))

    def pairs(self):
        """Each check that has a "set" right behind it, as (program, key, check, key of the "set", "set")."""
        for program in self.programs:
            steps = steps_by_key(program)
            for part, path in keys_of_checks(program):
                later = (part, path[:-1] + (path[-1] + 1,))
                if steps.get(later, ("none",))[0] == "set":
                    yield program, (part, path), steps[(part, path)], later, steps[later]
                else:
                    self.check_fault(NotUsable("behind", -1), may_go_behind, program, (part, path))

    def behind(self, program, key, check, put):
        """What becomes of the states with which runs come to the check, where it fails and where it holds."""
        found = {True: set(), False: set()}
        for state in all_states(program[0]):
            for at, came in slow_run(program, state)[3]:
                if at == key:
                    end = slow_run((program[0], (), (put,)), came)[1]
                    found[value(program[0], came, check[2])].add(end)
        return found

    def test_by_another_way(self):
        many = {True: 0, False: 0}
        for program, key, check, later, put in self.pairs():
            found = self.behind(program, key, check, put)
            may = not found[True] & found[False]
            many[may] = many[may] + 1
            self.assertIs(may_go_behind(program, key), may)
            if not may:
                self.assertIs(gone_behind(program, key), None)
                continue
            new = moved(check[1], *sorted(found[False]))
            due = rebuilt(program, lambda at, step: (put if at == key else new if at == later else step,))
            self.check_same(gone_behind(program, key), due)
            self.assertTrue(slow_equal(program, due))
        self.assertGreater(min(many.values()), 10)

    def test_otherwise_no_condition_does(self):
        self.programs = [with_distinct_words(program) for program in self.programs]
        for program, key, check, later, put in self.pairs():
            states = all_states(program[0])
            if may_go_behind(program, key) or len(states) > 5:
                continue
            for many in range(len(states) + 1):
                for some in itertools.combinations(states, many):
                    new = moved(check[1], *some)
                    other = rebuilt(program, lambda at, step: (put if at == key else new if at == later else step,))
                    self.assertFalse(slow_equal(program, other))

    def test_arguments_stay_as_they_are_and_no_call_hangs_on_an_earlier_one(self):
        told = repr(self.programs)
        rows = [(program, key) for program, key, _, _, _ in self.pairs()]
        first = [gone_behind(program, key) for program, key in rows]
        self.assertEqual([gone_behind(program, key) for program, key in rows[::-1]][::-1], first)
        key = [None, [0]]
        self.check_fault(UnknownKey(key), gone_behind, TILL, key)
        self.check_same([repr(self.programs), key], [told, [None, [0]]])


if __name__ == "__main__":
    unittest.main()
