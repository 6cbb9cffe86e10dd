"""[5], [25] to [27], [31]: programs that are alike or equal, words that are told, conditions around a step."""

import unittest

from faultcases import FaultCase
from firstfault.comparing import are_alike, are_equal, before, behind, parting_state, states_telling, words_told
from firstfault.errors import NotUsable
from firstfault.programchecker import lets_program
from makers import Maker, all_states, made_programs, slow_alike, slow_equal, slow_run, value
from samples import (
    BAD, BIG, COINS, CONDITIONS, FULL, GOOD, INTEGERS, ITEMS, JUNK, LESS, NAMES, NESTED, NONE, SIX, STEPS, TILL, coins,
)

A, B = ("item", "a"), ("item", "b")
SAY = ("say", COINS)
FEWER = (ITEMS, (), TILL[2][1:])
SHORT = (ITEMS, (), TILL[2][:2])
ALL = ((0,), (1,), (2,), (3,), (4,))


class AlikeTest(FaultCase):
    def check_pair(self, one, other, state, at_the_end):
        """Whether state parts both programs, and the other one parts them at the end, as the least ones."""
        for first, second in ((one, other), (other, one)):
            self.check_same(parting_state(first, second), state)
            self.check_same(parting_state(first, second, ends=True), at_the_end)
            self.assertIs(are_alike(first, second), state is None)
            self.assertIs(are_equal(first, second), at_the_end is None)

    def test_example(self):
        longer = SHORT[:2] + (SHORT[2] + (("repeat", 0, (LESS,)),),)
        found = [parting_state(TILL, FEWER), parting_state(TILL, SHORT), are_equal(SHORT, longer)]
        self.check_same(found, [(4,), (2,), True])

    def test_equal(self):
        self.check_pair(TILL, TILL, None, None)
        self.check_pair(coins(), coins(), None, None)
        self.check_pair(coins(LESS, LESS), coins(("set", "coins", ("-", COINS, 2))), None, None)
        self.check_pair(coins(SAY), coins(("call", "a"), calls=(("a", (SAY,)),)), None, None)
        self.check_pair(coins(NONE), coins(("if", NONE[2], (), (BAD[:1] + ("none",) + BAD[2:],))), None, None)

    def test_what_is_behind_a_complaint_does_not_count(self):
        self.check_pair(coins(BAD), coins(BAD, SAY, LESS), None, None)
        # What a complaining run has set does not count either.
        self.check_pair(coins(LESS, BAD), coins(BAD), None, None)

    def test_parted_by_the_word_by_what_is_said_and_by_the_order(self):
        self.check_pair(coins(FULL), coins(("check", "a", FULL[2])), (4,), (4,))
        self.check_pair(coins(FULL), coins(), (4,), (4,))
        self.check_pair(coins(SAY, BAD), coins(BAD), (0,), (0,))
        self.check_pair(coins(("say", 1), ("say", 2)), coins(("say", 2), ("say", 1)), (0,), (0,))
        self.check_pair(coins(SAY), coins(("say", ("*", COINS, COINS))), (2,), (2,))
        self.check_pair(coins(SAY, FULL), coins(FULL, SAY), (4,), (4,))
        self.check_pair(coins(SAY, FULL), coins(FULL, ("say", 3)), (0,), (0,))

    def test_the_least_of_several_states(self):
        self.check_pair(coins(("check", "a", ("in", ((0,), (1,))))), coins(), (2,), (2,))
        one, other = (SIX, (), (("say", ("*", A, B)),)), (SIX, (), (("say", ("*", A, 3)),))
        self.check_pair(one, other, (1, 0), (1, 0))

    def test_parted_at_the_end_alone(self):
        self.check_pair(coins(), coins(LESS), None, (1,))
        self.check_pair(coins(SAY), coins(SAY, ("set", "coins", 0)), None, (1,))
        self.check_pair((SIX, (), ()), (SIX, (), (("set", "b", A),)), None, (0, 1))
        # Parted at the end from 1 on, by what is told from 3 on.
        self.check_pair(coins(), coins(LESS, ("check", "a", ("<", COINS, 2))), (3,), (1,))

    def test_ends_is_any_value(self):
        for ends in (True, 1, -1, "x", [0], (0,), BIG, {0: 0}):
            self.check_same(parting_state(coins(), coins(LESS), ends=ends), (1,))
            self.check_same(parting_state(coins(), coins(), ends=ends), None)
        for ends in (False, 0, "", [], (), None, {}):
            self.check_same(parting_state(coins(), coins(LESS), ends=ends), None)
            self.check_same(parting_state(TILL, FEWER, ends=ends), (4,))

    def test_arguments(self):
        self.check_same(parting_state(other=SHORT, one=TILL), (2,))
        self.check_same(parting_state(ends=True, other=coins(LESS), one=coins()), (1,))
        self.check_same([are_alike(other=TILL, one=TILL), are_equal(other=FEWER, one=TILL)], [True, False])
        for function in (parting_state, are_alike, are_equal):
            with self.assertRaises(TypeError):
                function(TILL, TILL, True)

    def test_other_items(self):
        for items in ((("coin", 0, 4),), (("coins", 0, 3),), (("coins", -1, 4),), (("coins", 0, 4), ("d", 0, 0)), SIX):
            for one, other in ((TILL, (items, (), ())), ((items, (), ()), TILL), (coins(), (items, (), ()))):
                for function in (parting_state, are_alike, are_equal):
                    self.check_fault(NotUsable("items", -1), function, one, other)
        with self.assertRaises(NotUsable):
            parting_state(TILL, (SIX, (), ()), ends=True)


class WordsTest(FaultCase):
    def test_the_till(self):
        self.check_same(words_told(TILL), ("full", "none"))
        self.check_same(words_told(program=coins()), ())
        self.check_same(states_telling(TILL, "none"), ((0,), (1,)))
        self.check_same(states_telling(TILL, "full"), ((4,),))
        self.check_same(states_telling(word=None, program=TILL), ((2,), (3,)))

    def test_words_ascend_and_stand_once(self):
        checks = [("check", word, ("not", ("=", COINS, k))) for k, word in enumerate(("b", "a", "b", "ab"))]
        self.check_same(words_told(coins(*checks)), ("a", "ab", "b"))
        self.check_same(states_telling(coins(*checks), "b"), ((0,), (2,)))
        self.check_same(states_telling(coins(*checks), None), ((4,),))

    def test_words_that_are_never_told(self):
        calls = (("c", (("check", "never", ("in", ())),)),)
        program = coins(GOOD, FULL, ("check", "again", FULL[2]), ("if", FULL[2], (), (BAD,)), calls=calls)
        self.check_same(words_told(program), ("full",))
        for word in ("good", "again", "bad", "never", "c", "set", "nothing"):
            self.check_same(states_telling(program, word), ())

    def test_values_that_are_no_words(self):
        for word in JUNK[1:] + INTEGERS + STEPS + CONDITIONS + ([], ["none"], ("none",), ("full", None), "NONE", {}):
            self.check_same(states_telling(TILL, word), (), word)
            self.check_same(states_telling(coins(), word), (), word)
        self.check_same(states_telling(coins(), None), ALL)


class AroundTest(FaultCase):
    def check_around(self, step, condition, ahead, after, items=ITEMS, calls=()):
        self.check_same(before(items, step, condition, calls=calls), ("in", ahead))
        self.check_same(behind(items, step, condition, calls=calls), ("in", after))

    def test_example(self):
        found = [before(ITEMS, LESS, ("=", COINS, 0)), behind(ITEMS, LESS, ("<", COINS, 2))]
        self.check_same(found, [("in", ((0,), (1,))), ("in", ((0,),))])

    def test_set(self):
        self.check_around(LESS, ("<", 1, COINS), ((3,), (4,)), ((1,), (2,), (3,)))
        self.check_around(("set", "coins", ("-", 4, COINS)), ("<", COINS, 2), ((3,), (4,)), ((3,), (4,)))
        self.check_around(("set", "a", B), ("=", A, 1), tuple([(k, 1) for k in range(6)]), tuple([(k, k) for k in range(6)]),
                          items=SIX)

    def test_conditions_that_hold_in_all_states_and_in_none(self):
        self.check_around(LESS, ("=", 1, 1), ALL, ALL[:4])
        self.check_around(LESS, ("=", 1, 2), (), ())
        self.check_around(NONE, ("=", 1, 1), ALL[1:], ALL[1:])
        self.check_around(("call", "a"), ("=", 1, 1), ALL, ALL, calls=(("a", ()),))

    def test_in(self):
        self.check_around(LESS, ("in", ()), (), ())
        self.check_around(LESS, ("in", ALL), ALL, ALL[:4])
        self.check_around(LESS, ("in", ((0,), (4,))), ((0,), (1,)), ((0,), (3,)))

    def test_say(self):
        self.check_around(SAY, ("<", COINS, 2), ((0,), (1,)), ((0,), (1,)))

    def test_check(self):
        self.check_around(FULL, ("<", 2, COINS), ((3,),), ((3,),))
        self.check_around(FULL, ("=", 4, COINS), (), ())
        self.check_around(BAD, ("=", 1, 1), (), ())
        self.check_around(GOOD, ("=", 1, COINS), ((1,),), ((1,),))

    def test_if(self):
        step = ("if", ("<", COINS, 2), (LESS, ("check", "a", ("=", COINS, 0))), (FULL, LESS))
        self.check_around(step, ("<", COINS, 2), ALL[:3], ALL[:1])
        self.check_around(step, ("<", 1, COINS), ((3,),), ((1,), (2,)))

    def test_repeat(self):
        step = ("repeat", COINS, (LESS, ("check", "a", ("<", 0, COINS))))
        self.check_around(step, ("<", COINS, 9), ((0,), (4,)), ((0,), (1,)))
        self.check_around(("repeat", 2, (LESS,)), ("=", COINS, 0), ALL[:3], ((0,),))

    def test_call(self):
        calls = (("a", (LESS, NONE)), ("b", (("call", "a"), ("call", "a"))))
        self.check_around(("call", "a"), ("<", COINS, 2), ((2,),), (), calls=calls)
        self.check_around(("call", "b"), ("<", COINS, 2), ((3,),), (), calls=calls)
        self.check_around(("call", "b"), ("<", 2, COINS), (), ((1,), (2,)), calls=calls)
        self.check_around(LESS, ("=", COINS, 0), ALL[:2], ((0,),), calls=calls)

    def test_arguments(self):
        self.check_same(before(condition=("=", COINS, 0), step=LESS, items=ITEMS), ("in", ALL[:2]))
        self.check_same(behind(condition=("=", COINS, 0), step=LESS, items=ITEMS), ("in", ALL[:1]))
        for function in (before, behind):
            with self.assertRaises(TypeError):
                function(ITEMS, LESS, ("=", 1, 1), ())


class ChanceTest(FaultCase):
    def setUp(self):
        self.programs = [TILL, NESTED] + made_programs(200)

    def test_words(self):
        for program in self.programs:
            told = {state: slow_run(program, state)[0][1] for state in all_states(program[0])}
            words = tuple(sorted(set(told.values()) - {None}))
            self.check_same(words_told(program), words)
            for word in words + (None, "x", "y", "z"):
                due = tuple([state for state in told if told[state] == word])
                self.check_same(states_telling(program, word), due)

    def test_pairs_of_programs(self):
        for program in self.programs:
            for other in (program, program[:2] + (program[2][:-1],), program[:2] + (program[2][::-1],)):
                lets_program(other)
                self.assertIs(are_alike(program, other), slow_alike(program, other))
                self.assertIs(are_equal(program, other), slow_equal(program, other))
                runs = [(state, slow_run(program, state)[:2], slow_run(other, state)[:2])
                        for state in all_states(program[0])]
                due = [state for state, first, second in runs if first[0] != second[0]] + [None]
                self.check_same(parting_state(program, other), due[0])
                due = [state for state, first, second in runs if first != second] + [None]
                self.check_same(parting_state(program, other, ends=True), due[0])

    def test_equal_programs_are_alike_and_the_other_way_round_with_each_item_said(self):
        for program in self.programs:
            last = tuple([("say", ("item", name)) for name, _, _ in program[0]])
            for other in (program[:2] + (program[2][:-1],), program[:2] + (program[2][1:],)):
                if are_equal(program, other):
                    self.assertTrue(are_alike(program, other))
                with_items = [(items, calls, steps + last) for items, calls, steps in (program, other)]
                self.assertIs(are_alike(*with_items), are_equal(program, other))

    def test_before_and_behind(self):
        maker = Maker(5)
        for _ in range(100):
            items, calls, steps = maker.program()
            conditions = [maker.condition(2) for _ in range(3)]
            for step in steps:
                ends = {state: slow_run((items, calls, (step,)), state)[1] for state in all_states(items)}
                for c in conditions:
                    ahead = before(items, step, c, calls=calls)
                    due = [s for s, end in ends.items() if end is not None and value(items, end, c)]
                    self.check_same(ahead, ("in", tuple(due)))
                    after = behind(items, step, c, calls=calls)
                    due = {end for s, end in ends.items() if end is not None and value(items, s, c)}
                    self.check_same(after, ("in", tuple(sorted(due))))
                    # d is true behind c if and only if c, where the step does not complain, is before d.
                    for d in conditions:
                        one = all(value(items, state, d) for state in after[1])
                        enough = before(items, step, d, calls=calls)[1]
                        own = [s for s, end in ends.items() if end is not None and value(items, s, c)]
                        self.assertIs(one, set(own) <= set(enough))

    def test_arguments_stay_as_they_are_and_no_call_hangs_on_an_earlier_one(self):
        told = repr(self.programs)

        def all_of(programs):
            return [(words_told(one), states_telling(one, None), parting_state(one, one[:2] + ((BAD,),), ends=[1]),
                     before(one[0], ("say", 1), ("=", 1, 1), calls=one[1])) for one in programs]

        first = all_of(self.programs)
        self.assertEqual(all_of(self.programs[::-1])[::-1], first)
        self.assertEqual(repr(self.programs), told)


if __name__ == "__main__":
    unittest.main()
