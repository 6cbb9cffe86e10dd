"""[9], [47]: the checker of come papers."""

import unittest

from faultcases import FaultCase
from firstfault.comechecker import lets_come
from firstfault.comepapers import come_paper
from firstfault.coming import may_come
from firstfault.errors import InvalidPaper, NoCheck, NotUsable, UnknownKey
from firstfault.keys import all_keys
from makers import all_states, keys_of_checks, made_programs, slow_run
from samples import (
    BAD, BIG, COINS, CONDITIONS, GOOD, INTEGERS, JUNK, LESS, NAMES, NESTED, NESTED_KEYS, NONE, NO_PLACES, PLACES,
    SIX, STEPS, TILL, coins, with_each_changed, with_wrong_length,
)

SAY = ("say", COINS)
FIRST, SECOND, THIRD = [(None, (k,)) for k in range(3)]
INNER = (None, (1, 0, 0))
CHECK = (None, (0, 1, 1))
# The check may come to the place: the runs come there with another state than the one they begin with.
PROGRAM = coins(SAY, LESS, LESS, NONE)
KEY = (None, (3,))
ROWS = (((0,), (0,)), ((1,), (0,)), ((2,), (1,)))
NO_STATES = JUNK + INTEGERS + NAMES + STEPS + (
    (5,), (-1,), (BIG,), (2, 2), [2], [0], (True,), (False,), ("2",), ((2,),), ((0,), (0,)), 2,
)


class LetsComeTest(FaultCase):
    def check_wrong(self, word, at, thing, program=PROGRAM, key=KEY, place=THIRD):
        self.check_fault(InvalidPaper(word, at), lets_come, program, key, place, thing)

    def test_papers_that_are_right(self):
        self.assertIs(lets_come(PROGRAM, KEY, THIRD, ("comes", ROWS)), True)
        self.assertIs(lets_come(thing=("comes", ROWS), place=THIRD, key=KEY, program=PROGRAM), True)
        self.assertIs(lets_come(TILL, INNER, FIRST, ("comes", (((0,), (0,)), ((1,), (1,))))), True)
        for k in range(3):
            self.assertIs(lets_come(PROGRAM, KEY, FIRST, ("bars", (k,))), False)
        for k in (0, 1):
            self.assertIs(lets_come(TILL, INNER, THIRD, ("bars", (k,))), False)
        self.assertIs(lets_come(TILL, FIRST, SECOND, ("bars", (4,))), False)

    def test_no_run_complains(self):
        for place in (FIRST, SECOND):
            self.assertIs(lets_come(coins(GOOD, SAY), FIRST, place, ("comes", ())), True)
            self.check_wrong("many", -1, ("comes", (((0,), (0,)),)), coins(GOOD, SAY), FIRST, place)
            self.check_wrong("state", -1, ("bars", (0,)), coins(GOOD, SAY), FIRST, place)

    def test_shape(self):
        for thing in JUNK + INTEGERS + NAMES + STEPS + CONDITIONS:
            self.check_wrong("shape", -1, thing)
            self.check_wrong("shape", -1, (thing, ROWS))
        for thing in with_wrong_length(("comes", ROWS)) + with_wrong_length(("bars", (0,))) + [(ROWS, "comes")]:
            self.check_wrong("shape", -1, thing)
        for word in ("come", "comes ", "Comes", "bar", "", "front", ("comes",), True):
            self.check_wrong("shape", -1, (word, ROWS))
        for rows in (None, True, 0, "", "ab", [], list(ROWS), [((0,), (0,))], {}, "comes"):
            self.check_wrong("shape", -1, ("comes", rows))

    def test_shape_of_rows(self):
        wrong = (None, True, 0, "", "ab", [], [(0,), (0,)], (), ((0,),), ((0,), (0,), (0,)), (0,), {0: 0, 1: 1})
        for k in range(3):
            for rows in with_each_changed(ROWS, k, wrong):
                self.check_wrong("shape", -1, ("comes", rows))
        # Ahead of "many" and of a row ahead.
        self.check_wrong("shape", -1, ("comes", (None,)))
        self.check_wrong("shape", -1, ("comes", ((None, None), ROWS[1], ())))

    def test_many(self):
        for rows in ((), ROWS[:2], ROWS[1:], ROWS + ROWS[2:], ROWS[:1] + ROWS, ROWS + (((3,), (2,)),), ((None, None),)):
            self.check_wrong("many", -1, ("comes", rows))

    def test_state_of_a_row(self):
        for k, (state, at) in enumerate(ROWS):
            wrong = NO_STATES + tuple([(n,) for n in range(5) if (n,) != state])
            for rows in with_each_changed(ROWS, k, tuple([(other, at) for other in wrong])):
                self.check_wrong("state", k, ("comes", rows))
                # The first of two; ahead of "at" of the same row.
                self.check_wrong("state", k, ("comes", rows[:k] + ((rows[k][0], None),) + ((None, None),) * (2 - k)))

    def test_at_of_a_row(self):
        for k, (state, at) in enumerate(ROWS):
            wrong = NO_STATES + tuple([(n,) for n in range(5) if (n,) != at])
            for rows in with_each_changed(ROWS, k, tuple([(state, other) for other in wrong])):
                self.check_wrong("at", k, ("comes", rows))
                # Ahead of the state of the next row.
                self.check_wrong("at", k, ("comes", rows[:k + 1] + ((None, None),) * (2 - k)))

    def test_exchanged_and_turned_rows(self):
        self.check_wrong("state", 0, ("comes", ROWS[::-1]))
        self.check_wrong("state", 1, ("comes", (ROWS[0], ROWS[2], ROWS[1])))
        self.check_wrong("state", 1, ("comes", (ROWS[0], ROWS[0], ROWS[2])))
        self.check_wrong("at", 1, ("comes", tuple([(state, state) for state, _ in ROWS])))

    def test_runs_that_do_not_come_or_say_something(self):
        # From there on SAY is said; none of the rows is right.
        for at in ((0,), None):
            self.check_wrong("at", 0, ("comes", (((0,), at),) + ROWS[1:]), place=FIRST)
        program = coins(("if", ("=", COINS, 1), (LESS,), (LESS,)), NONE)
        rows = (((0,), (0,)), ((1,), (1,)))
        self.check_wrong("at", 0, ("comes", rows), program, SECOND, (None, (0, 0, 0)))
        self.check_wrong("at", 1, ("comes", rows), program, SECOND, (None, (0, 1, 0)))
        self.assertIs(lets_come(program, SECOND, FIRST, ("comes", rows)), True)
        program = coins(("if", ("=", COINS, 1), (SAY, LESS), (LESS,)), NONE)
        self.check_wrong("at", 1, ("comes", rows), program, SECOND, FIRST)

    def test_true_is_not_1(self):
        self.check_wrong("state", 1, ("comes", (ROWS[0], ((True,), (0,)), ROWS[2])))
        self.check_wrong("state", 0, ("comes", (((False,), (0,)),) + ROWS[1:]))
        self.check_wrong("at", 0, ("comes", (((0,), (False,)),) + ROWS[1:]))
        self.check_wrong("at", 2, ("comes", ROWS[:2] + (((2,), (True,)),)))
        self.check_wrong("state", -1, ("bars", (True,)), place=FIRST)
        self.assertIs(lets_come(PROGRAM, KEY, FIRST, ("bars", (1,))), False)

    def test_no_state_that_bars(self):
        for state in NO_STATES:
            self.check_wrong("state", -1, ("bars", state), place=FIRST)
            self.check_wrong("state", -1, ("bars", state))
        # Its run does not complain, or by another check with an equal word.
        for state in ((3,), (4,)):
            self.check_wrong("state", -1, ("bars", state), place=FIRST)
        program = coins(("check", "none", ("<", 1, COINS)), SAY, ("check", "none", ("<", 2, COINS)))
        self.assertIs(lets_come(program, THIRD, FIRST, ("bars", (2,))), False)
        for k in (0, 1, 3):
            self.check_wrong("state", -1, ("bars", (k,)), program, THIRD, FIRST)
        self.check_wrong("comes", -1, ("bars", (0, 0)), (SIX, (), (BAD,)), FIRST, FIRST)

    def test_a_state_that_comes(self):
        for k in range(3):
            self.check_wrong("comes", -1, ("bars", (k,)))
        for k in (0, 1):
            self.check_wrong("comes", -1, ("bars", (k,)), TILL, INNER, FIRST)

    def test_values_that_are_no_keys_or_places(self):
        papers = (("comes", ()), ("bars", (0, 0)), None)
        for thing in NO_PLACES + PLACES + JUNK + INTEGERS + NAMES + STEPS:
            for paper in papers:
                self.check_fault(UnknownKey(thing), lets_come, NESTED, thing, CHECK, paper)
                self.check_fault(UnknownKey(thing), lets_come, NESTED, CHECK, thing, paper)
                self.check_fault(UnknownKey(thing), lets_come, NESTED, thing, [None], paper)
                self.check_fault(UnknownKey(thing), lets_come, NESTED, (None, (0,)), thing, paper)

    def test_keys_and_places_of_other_steps(self):
        for paper in (("comes", ()), ("bars", (0, 0)), None):
            for key in NESTED_KEYS:
                if key != CHECK:
                    self.check_fault(NoCheck(key), lets_come, NESTED, key, CHECK, paper)
                    self.check_fault(NoCheck(key), lets_come, NESTED, key, ("one", (0,)), paper)
                if key[0] is not None or len(key[1]) > 1 and key[1][0] == 1:
                    self.check_fault(NotUsable("place", -1), lets_come, NESTED, CHECK, key, paper)


class ChanceTest(FaultCase):
    def test_papers_as_returned_and_changed(self):
        for program in [TILL, PROGRAM] + made_programs(150):
            states = all_states(program[0])
            for key in keys_of_checks(program):
                due = [state for state in states if slow_run(program, state)[2] == key]
                for place in all_keys(program):
                    try:
                        may = may_come(program, key, place)
                    except NotUsable:
                        continue
                    word, told = paper = come_paper(program, key, place)
                    self.assertIs(lets_come(program, key, place, paper), may)
                    if may:
                        self.check_fault(InvalidPaper("many", -1), lets_come, program, key, place, (word, told + told[:1] + (
                            (None, None),)))
                        for k in range(len(told)):
                            exchanged = told[:k] + ((told[k][0], told[k][1] + (0,)),) + told[k + 1:]
                            self.check_fault(InvalidPaper("at", k), lets_come, program, key, place, (word, exchanged))
                    for state in states:
                        fault = self.fault_of(program, key, place, state, due)
                        if fault is None:
                            self.assertIs(lets_come(program, key, place, ("bars", state)), False)
                            self.assertFalse(may)
                        else:
                            self.check_fault(InvalidPaper(fault, -1), lets_come, program, key, place, ("bars", state))

    def fault_of(self, program, key, place, state, due):
        if state not in due:
            return "state"
        (said, _), _, _, came = slow_run(program, state)
        keys = [visit[0] for visit in came]
        if place not in keys:
            return None
        # Each time that a run comes to a "say", a number is said.
        before = [at for at in came[:keys.index(place)] if self.is_say(program, at[0])]
        return "comes" if len(before) == len(said) else None

    def is_say(self, program, key):
        part, path = key
        steps = program[2] if part is None else dict(program[1])[part]
        for k in range(0, len(path) - 1, 2):
            steps = steps[path[k]][2 + path[k + 1]]
        return steps[path[-1]][0] == "say"

    def test_arguments_stay_as_they_are_and_no_call_hangs_on_an_earlier_one(self):
        thing = ["comes", [((0,), (0,))]]
        told = repr((PROGRAM, TILL, thing))
        self.check_fault(InvalidPaper("shape", -1), lets_come, PROGRAM, KEY, THIRD, thing)
        for _ in range(2):
            self.assertIs(lets_come(PROGRAM, KEY, THIRD, ("comes", ROWS)), True)
            self.assertIs(lets_come(PROGRAM, KEY, FIRST, ("bars", (0,))), False)
        self.assertEqual(repr((PROGRAM, TILL, thing)), told)


if __name__ == "__main__":
    unittest.main()
