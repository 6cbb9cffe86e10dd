"""[4] to [6], [9], [21] to [24]: runs, their trails, arrivals and complaints."""

import inspect
import unittest

from firstfault.errors import FaultError, InvalidState, NoCheck, ProgramError, UnknownKey
from firstfault.keys import all_keys, step_at
from firstfault.running import arrivals, complained_by, complaints_by, run, states_of, trail, unreached_keys
from firstfault.values import holds_in
from makers import all_states, made_programs, slow_run, within_repeats
from samples import (
    BAD, BIG, BOOLS, COINS, FULL, INTEGERS, ITEMS, JUNK, LESS, NAMES, NESTED, NESTED_KEYS, NONE, NO_PLACES, PAIR, PLACES,
    SIX, STEPS, TILL, coins,
)

A, B = ("item", "a"), ("item", "b")
SAY = ("say", COINS)
MORE = ("set", "coins", ("+", COINS, 1))


class StatesTest(unittest.TestCase):
    def check_states(self, items, due):
        self.assertEqual(repr(list(states_of(items))), repr(due))

    def test_one_item(self):
        self.check_states(ITEMS, [(0,), (1,), (2,), (3,), (4,)])
        self.check_states((("a", -2, 1),), [(-2,), (-1,), (0,), (1,)])
        self.check_states((("a", 7, 7),), [(7,)])

    def test_two_items(self):
        self.check_states((("a", -1, 0), ("b", 5, 7)), [(-1, 5), (-1, 6), (-1, 7), (0, 5), (0, 6), (0, 7)])
        self.check_states(PAIR, [(-2, 0), (-1, 0), (0, 0), (1, 0), (2, 0)])
        self.check_states((("a", 3, 3), ("b", 0, 1)), [(3, 0), (3, 1)])
        self.check_states((("a", 3, 3), ("b", 4, 4)), [(3, 4)])
        self.check_states(SIX, [(a, b) for a in range(6) for b in range(6)])

    def test_three_items_ascend(self):
        items = (("a", -1, 1), ("b", 0, 0), ("c", -3, -1))
        self.check_states(items, all_states(items))
        self.assertEqual(sorted(states_of(items)), list(states_of(items)))

    def test_a_generator(self):
        self.assertTrue(inspect.isgenerator(states_of(ITEMS)))
        great = states_of(items=(("a", 0, BIG), ("b", -BIG, BIG)))
        self.assertEqual([next(great), next(great)], [(0, -BIG), (0, 1 - BIG)])
        self.assertEqual(list(states_of(ITEMS)), list(states_of(ITEMS)))


class RunTest(unittest.TestCase):
    def check_run(self, program, state, said, word, end, key=None):
        self.assertEqual(repr(run(program, state)), repr(((said, word), end)), (program, state))
        self.assertEqual(repr(complained_by(program, state)), repr(key), (program, state))

    def test_example(self):
        found = [run(TILL, (3,)), run(TILL, (1,)), complained_by(TILL, (1,)), complained_by(TILL, (2,))]
        self.assertEqual(found, [(((1,), None), (1,)), (((), "none"), None), (None, (1, 0, 0)), None])

    def test_the_till_from_all_states(self):
        self.check_run(TILL, (0,), (), "none", None, (None, (1, 0, 0)))
        self.check_run(TILL, (1,), (), "none", None, (None, (1, 0, 0)))
        self.check_run(TILL, (2,), (0,), None, (0,))
        self.check_run(TILL, (3,), (1,), None, (1,))
        self.check_run(TILL, (4,), (), "full", None, (None, (0,)))

    def test_no_steps(self):
        self.check_run(coins(), (3,), (), None, (3,))
        self.check_run(coins(("if", ("in", ()), (BAD,), ()), ("repeat", 3, ()), ("call", "a"), calls=(("a", ()),)), (3,),
                       (), None, (3,))

    def test_say_and_set(self):
        self.check_run(coins(SAY, MORE, SAY, LESS, LESS, SAY, ("say", -BIG)), (3,), (3, 4, 2, -BIG), None, (2,))
        self.check_run(coins(("set", "coins", BIG), SAY, ("set", "coins", -1), SAY), (3,), (4, 0), None, (0,))
        two = (SIX, (), (("set", "a", B), ("set", "b", ("-", A, 1)), ("say", ("-", A, B))))
        self.check_run(two, (0, 4), (1,), None, (4, 3))

    def test_the_first_check_that_fails_ends_the_run(self):
        program = coins(SAY, FULL, SAY, NONE, ("say", 7), BAD, ("say", 8), LESS)
        self.check_run(program, (4,), (4,), "full", None, (None, (1,)))
        self.check_run(program, (0,), (0, 0), "none", None, (None, (3,)))
        self.check_run(program, (2,), (2, 2, 7), "bad", None, (None, (5,)))

    def test_checks_with_equal_words(self):
        program = coins(("check", "a", ("<", COINS, 3)), ("check", "a", ("<", 0, COINS)), ("check", "a", ("=", COINS, 1)))
        for k, key in ((0, (None, (1,))), (2, (None, (2,))), (3, (None, (0,))), (4, (None, (0,)))):
            self.check_run(program, (k,), (), "a", None, key)
        self.check_run(program, (1,), (), None, (1,))

    def test_if(self):
        program = coins(("if", ("<", COINS, 2), (("say", 1), MORE), (("say", 2), LESS)), SAY)
        self.check_run(program, (1,), (1, 2), None, (2,))
        self.check_run(program, (2,), (2, 1), None, (1,))
        program = coins(("if", ("<", COINS, 2), (MORE, BAD), (LESS, LESS, NONE)), SAY)
        self.check_run(program, (1,), (), "bad", None, (None, (0, 0, 1)))
        self.check_run(program, (2,), (), "none", None, (None, (0, 1, 2)))
        self.check_run(program, (3,), (1,), None, (1,))

    def test_if_is_decided_once(self):
        self.check_run(coins(("if", ("=", COINS, 0), (MORE, SAY), (("say", 9),))), (0,), (1,), None, (1,))

    def test_repeat_as_often_as_its_number_tells(self):
        for number, rounds in ((-BIG, 0), (-2, 0), (-1, 0), (0, 0), (1, 1), (2, 2), (3, 3), (4, 3), (20, 3), (BIG, 3)):
            self.check_run(coins(("repeat", number, (MORE, SAY))), (0,), tuple(range(1, rounds + 1)), None, (rounds,))

    def test_repeat_by_the_number_when_it_begins(self):
        self.check_run(coins(("repeat", COINS, (LESS, ("say", 1)))), (2,), (1, 1), None, (0,))
        self.check_run(coins(("repeat", COINS, (MORE, ("say", 1)))), (1,), (1,), None, (2,))
        self.check_run(coins(("repeat", COINS, (("set", "coins", 0),)), SAY), (4,), (0,), None, (0,))

    def test_a_complaint_in_a_repetition(self):
        program = coins(("repeat", 3, (SAY, ("check", "low", ("<", 1, COINS)), LESS)), SAY)
        self.check_run(program, (1,), (1,), "low", None, (None, (0, 0, 1)))
        self.check_run(program, (2,), (2, 1), "low", None, (None, (0, 0, 1)))
        self.check_run(program, (3,), (3, 2, 1), "low", None, (None, (0, 0, 1)))
        self.check_run(program, (4,), (4, 3, 2, 1), None, (1,))

    def test_repetitions_within_each_other(self):
        program = coins(("repeat", 2, (("repeat", COINS, (("say", 1),)), LESS, ("say", 0))))
        self.check_run(program, (2,), (1, 1, 0, 1, 0), None, (0,))

    def test_calls(self):
        calls = (("b", (LESS, NONE)), ("a", (("call", "b"), SAY, ("call", "b"))))
        program = coins(("call", "b"), ("call", "a"), ("say", 9), calls=calls)
        self.check_run(program, (4,), (2, 9), None, (1,))
        self.check_run(program, (3,), (1,), "none", None, ("b", (1,)))
        self.check_run(program, (2,), (), "none", None, ("b", (1,)))
        self.check_run(program, (0,), (), "none", None, ("b", (1,)))
        self.check_run(coins(SAY, calls=calls), (0,), (0,), None, (0,))

    def test_a_complaint_in_a_call_in_a_branch(self):
        calls = (("b", (("if", ("=", COINS, 1), (), (("repeat", 2, (NONE, LESS)),)),)),)
        program = coins(("if", FULL[2], (("call", "b"), SAY), ()), calls=calls)
        self.check_run(program, (0,), (), "none", None, ("b", (0, 1, 0, 0, 0)))
        self.check_run(program, (1,), (1,), None, (1,))
        self.check_run(program, (2,), (0,), None, (0,))
        self.check_run(program, (4,), (), None, (4,))

    def test_names_of_arguments(self):
        self.assertEqual(run(state=(3,), program=TILL), run(TILL, (3,)))
        self.assertEqual(complained_by(state=(4,), program=TILL), (None, (0,)))
        self.assertEqual(trail(state=(4,), program=TILL), (((None, (0,)), (4,)),))

    def test_deep(self):
        path = (0,) + (0, 0) * 30
        self.check_run(coins(within_repeats(SAY, 30)), (3,), (3,), None, (3,))
        self.check_run(coins(within_repeats(BAD, 30)), (3,), (), "bad", None, (None, path))


class TrailTest(unittest.TestCase):
    def test_example(self):
        due = (((None, (0,)), (0,)), ((None, (1,)), (0,)), ((None, (1, 0, 0)), (0,)))
        self.assertEqual(repr(trail(TILL, (0,))), repr(due))

    def test_the_till(self):
        due = (
            ((None, (0,)), (2,)), ((None, (1,)), (2,)), ((None, (1, 0, 0)), (2,)), ((None, (1, 0, 1)), (2,)),
            ((None, (1, 0, 0)), (1,)), ((None, (1, 0, 1)), (1,)), ((None, (2,)), (0,)),
        )
        self.assertEqual(repr(trail(TILL, (2,))), repr(due))
        self.assertEqual(trail(TILL, (1,)), tuple([(key, (state[0] - 1,)) for key, state in due[:5]]))
        self.assertEqual(trail(TILL, (4,)), (((None, (0,)), (4,)),))

    def test_no_steps(self):
        self.assertEqual(repr(trail(coins(), (4,))), "()")

    def test_branches_and_calls(self):
        calls = (("a", (("repeat", 0, (BAD,)), SAY)),)
        program = coins(("if", ("=", COINS, 0), (MORE,), (LESS, ("call", "a"))), SAY, calls=calls)
        self.assertEqual(trail(program, (0,)), (((None, (0,)), (0,)), ((None, (0, 0, 0)), (0,)), ((None, (1,)), (1,))))
        due = (
            ((None, (0,)), (2,)), ((None, (0, 1, 0)), (2,)), ((None, (0, 1, 1)), (1,)), (("a", (0,)), (1,)),
            (("a", (1,)), (1,)), ((None, (1,)), (1,)),
        )
        self.assertEqual(trail(program, (2,)), due)


class ArrivalsTest(unittest.TestCase):
    def test_example(self):
        found = [arrivals(TILL, (None, (1, 0, 0))), arrivals(TILL, (None, (2,))), complaints_by(TILL, (None, (1, 0, 0)))]
        self.assertEqual(repr(found), repr([((0,), (1,), (2,), (3,)), ((0,), (1,)), ((0,), (1,))]))

    def test_the_till(self):
        self.assertEqual(arrivals(TILL, (None, (0,))), ((0,), (1,), (2,), (3,), (4,)))
        self.assertEqual(arrivals(TILL, (None, (1,))), ((0,), (1,), (2,), (3,)))
        self.assertEqual(arrivals(key=(None, (1, 0, 1)), program=TILL), ((1,), (2,), (3,)))
        self.assertEqual(repr(complaints_by(TILL, (None, (0,)))), "((4,),)")
        self.assertEqual(complaints_by(key=(None, (0,)), program=TILL), ((4,),))
        self.assertEqual(repr(unreached_keys(program=TILL)), "()")

    def test_states_with_which_runs_come_ascend_and_stand_once(self):
        program = (SIX, (), (("set", "a", ("-", 5, A)), ("set", "b", ("*", B, 0)), ("say", 1)))
        self.assertEqual(arrivals(program, (None, (2,))), tuple([(k, 0) for k in range(6)]))

    def test_keys_to_which_no_run_comes(self):
        calls = (("b", (FULL, LESS)), ("a", (BAD, ("call", "b"))), ("c", (BAD,)))
        program = coins(("if", ("<", COINS, 9), (), (SAY, ("repeat", 2, (SAY,)))), ("repeat", ("-", COINS, 5), (MORE,)),
                        ("call", "a"), SAY, calls=calls)
        due = (
            ("b", (0,)), ("b", (1,)), ("a", (1,)), ("c", (0,)), (None, (0, 1, 0)), (None, (0, 1, 1)),
            (None, (0, 1, 1, 0, 0)),
            (None, (1, 0, 0)), (None, (3,)),
        )
        self.assertEqual(repr(unreached_keys(program)), repr(due))
        for key in due:
            self.assertEqual(repr(arrivals(program, key)), "()")
        self.assertEqual([complaints_by(program, key) for key in (("b", (0,)), ("c", (0,)))], [(), ()])
        self.assertEqual(complaints_by(program, ("a", (0,))), ((0,), (1,), (2,), (3,), (4,)))

    def test_no_steps(self):
        self.assertEqual(unreached_keys(coins(calls=(("a", ()),))), ())
        self.assertEqual(unreached_keys(coins(calls=(("a", (SAY,)),))), (("a", (0,)),))


class ErrorsTest(unittest.TestCase):
    def check_error(self, kind, field, thing, function, *given):
        with self.assertRaises(kind) as caught:
            function(*given)
        self.assertIs(getattr(caught.exception, field), thing)
        self.assertIs(caught.exception.__class__, kind)
        self.assertTrue(isinstance(caught.exception, ProgramError) and isinstance(caught.exception, FaultError))

    def test_values_that_are_no_states(self):
        wrong = JUNK + INTEGERS + NAMES + STEPS + tuple([(thing,) for thing in JUNK]) + (
            (-1,), (5,), (BIG,), (-BIG,), (True,), (False,), (0, 0), [0], ((0,),), ("0",),
        )
        for function in (run, complained_by, trail):
            for state in wrong:
                self.check_error(InvalidState, "state", state, function, TILL, state)
                self.check_error(InvalidState, "state", state, function, coins(), state)
            for state in ((0,), (3, 0), (0, 1), (-3, 0), (0, 0, 0), (True, 0), (1, False), [0, 0]):
                self.check_error(InvalidState, "state", state, function, NESTED, state)

    def test_values_that_are_no_keys(self):
        for key in NO_PLACES + PLACES + JUNK + INTEGERS + NAMES + STEPS + BOOLS:
            self.check_error(UnknownKey, "key", key, arrivals, NESTED, key)
            self.check_error(UnknownKey, "key", key, complaints_by, NESTED, key)

    def test_keys_that_are_not_those_of_checks(self):
        for key in NESTED_KEYS:
            if step_at(NESTED, key)[0] != "check":
                self.check_error(NoCheck, "key", key, complaints_by, NESTED, key)
        self.assertEqual(complaints_by(NESTED, (None, (0, 1, 1))), ())
        given = (None, tuple([1, 0, 1]))
        self.check_error(NoCheck, "key", given, complaints_by, TILL, given)


class ChanceTest(unittest.TestCase):
    def setUp(self):
        self.programs = [TILL, NESTED] + made_programs(200)

    def test_runs(self):
        for program in self.programs:
            for state in all_states(program[0]):
                told, end, key, came = slow_run(program, state)
                self.assertEqual(repr(run(program, state)), repr((told, end)), program)
                self.assertEqual(repr(complained_by(program, state)), repr(key), program)
                self.assertEqual(repr(trail(program, state)), repr(came), program)

    def test_arrivals_and_complaints(self):
        for program in self.programs:
            runs = [(state, slow_run(program, state)) for state in all_states(program[0])]
            for key in all_keys(program):
                came = sorted({state for _, done in runs for at, state in done[3] if at == key})
                self.assertEqual(repr(arrivals(program, key)), repr(tuple(came)), program)
                self.assertEqual(key in unreached_keys(program), len(came) == 0)
                if step_at(program, key)[0] == "check":
                    due = tuple([state for state, done in runs if done[2] == key])
                    self.assertEqual(repr(complaints_by(program, key)), repr(due), program)
            left = [key for key in all_keys(program) if key in unreached_keys(program)]
            self.assertEqual(repr(unreached_keys(program)), repr(tuple(left)))

    def test_consequences(self):
        for program in self.programs:
            keys = all_keys(program)
            checks = [key for key in keys if step_at(program, key)[0] == "check"]
            complaints = {key: complaints_by(program, key) for key in checks}
            rests = {}
            for state in states_of(program[0]):
                came = trail(program, state)
                (said, word), end = run(program, state)
                # Each state from which a word is told is in complaints_by of just one key.
                own = [key for key in checks if state in complaints[key]]
                self.assertEqual(own, [] if word is None else [complained_by(program, state)])
                self.assertEqual(end is None, word is not None)
                for k, (key, at) in enumerate(came):
                    if is_outside(program, key):
                        # A run comes to it at most once, and what is left hangs on the state there alone.
                        self.assertEqual(len([1 for other, _ in came if other == key]), 1)
                        rest = came[k:], word, end
                        self.assertEqual(rests.setdefault((key, at), rest), rest)
                    if key in checks:
                        fails = not holds_in(program[0], at, step_at(program, key)[2])
                        self.assertEqual(fails, k == len(came) - 1 and complained_by(program, state) == key)

    def test_arguments_stay_as_they_are_and_no_call_hangs_on_an_earlier_one(self):
        told = repr(self.programs)
        first = [[run(program, state) for state in states_of(program[0])] for program in self.programs]
        again = [[run(program, state) for state in states_of(program[0])] for program in reversed(self.programs)]
        self.assertEqual(first, again[::-1])
        self.assertEqual(repr(self.programs), told)


def is_outside(program, key):
    """Whether the part of a key is None and no "repeat" is on its path."""
    part, path = key
    around = [step_at(program, (part, path[:k]))[0] for k in range(1, len(path), 2)]
    return part is None and "repeat" not in around


if __name__ == "__main__":
    unittest.main()
