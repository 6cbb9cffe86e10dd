"""[9], [50] to [52]: all checks put in front, front papers and their checker."""

import unittest

from faultcases import FaultCase
from firstfault.comparing import are_alike, are_equal
from firstfault.coming import may_come
from firstfault.dropping import checks_of, dropped, fewest_checks, may_drop
from firstfault.errors import InvalidPaper
from firstfault.frontchecker import lets_front
from firstfault.fronting import fewest_at_all, fronted, may_front
from firstfault.frontpapers import front_paper
from firstfault.running import complaints_by
from makers import (
    all_states, keys_of_checks, made_programs, slow_alike, slow_dropped, slow_equal, slow_run,
)
from samples import (
    BAD, BIG, COINS, CONDITIONS, FULL, GOOD, INTEGERS, ITEMS, JUNK, LESS, NAMES, NESTED, NONE, SIX, STEPS, TILL, coins,
    with_each_changed, with_wrong_length,
)

SAY = ("say", COINS)
ROWS = (("full", ((4,),)), ("none", ((0,), (1,))))
LATE = coins(FULL, SAY, NONE)
NO_STATES = JUNK + INTEGERS + NAMES + STEPS + (
    (5,), (-1,), (BIG,), (4, 4), [4], (True,), (False,), ("4",), ((4,),), ((0,), (1,)), 4,
)


def front(word, *states):
    """A check of a front form."""
    return "check", word, ("not", ("in", states))


class FrontedTest(FaultCase):
    def check_fronted(self, program, due, many):
        self.assertIs(may_front(program), True)
        self.check_same(fronted(program), due)
        self.check_same(fewest_at_all(program), many)
        self.assertTrue(slow_equal(program, due))
        self.assertEqual(front_paper(program)[0], "front")

    def check_late(self, program):
        self.assertIs(may_front(program), False)
        self.assertIs(fronted(program), None)
        self.assertIs(fewest_at_all(program), None)
        self.assertEqual(front_paper(program)[0], "late")

    def test_example(self):
        found = [may_front(TILL), fewest_at_all(TILL), fronted(TILL)[2][1][1:], len(fronted(TILL)[2])]
        self.check_same(found, [True, 2, ("none", ("not", ("in", ((0,), (1,))))), 4])

    def test_the_till(self):
        due = coins(front("full", (4,)), front("none", (0,), (1,)), ("repeat", 2, (LESS,)), SAY)
        self.check_fronted(TILL, due, 2)
        self.check_same(fronted(program=TILL), due)
        self.check_same([may_front(program=TILL), fewest_at_all(program=TILL)], [True, 2])

    def test_no_word_is_told(self):
        self.check_fronted(coins(), coins(), 0)
        self.check_fronted(coins(SAY, LESS), coins(SAY, LESS), 0)
        self.check_fronted(coins(SAY, GOOD, LESS), coins(SAY, LESS), 0)
        self.check_fronted(coins(SAY, ("if", ("<", COINS, 9), (), (BAD, SAY))), coins(SAY, ("if", ("<", COINS, 9), (), (SAY,))), 0)

    def test_words_ascend_and_stand_once(self):
        program = coins(("check", "b", ("<", COINS, 4)), LESS, ("check", "a", ("<", COINS, 2)), ("check", "b", ("<", 0, COINS)))
        due = coins(front("a", (3,)), front("b", (0,), (1,), (4,)), LESS)
        self.check_fronted(program, due, 2)

    def test_words_that_no_run_tells(self):
        program = coins(FULL, ("check", "other", ("<", COINS, 4)), GOOD, ("if", FULL[2], (), (BAD,)), SAY)
        self.check_fronted(program, coins(front("full", (4,)), ("if", FULL[2], (), ()), SAY), 1)
        # A word of a check that no run comes to is told by another one.
        program = coins(("if", ("in", ()), (NONE,), ()), NONE)
        self.check_fronted(program, coins(front("none", (0,)), ("if", ("in", ()), (), ())), 1)

    def test_checks_in_calls(self):
        calls = (("never", (BAD, SAY)), ("b", (LESS, NONE)), ("a", (("call", "b"), ("call", "b"))))
        program = coins(("call", "a"), FULL, ("call", "b"), SAY, calls=calls)
        left = (("never", (SAY,)), ("b", (LESS,)), ("a", (("call", "b"), ("call", "b"))))
        due = coins(front("none", (0,), (1,), (2,), (3,)), ("call", "a"), ("call", "b"), SAY, calls=left)
        self.check_fronted(program, due, 1)

    def test_two_items(self):
        below = ("check", "below", ("<", ("item", "a"), ("item", "b")))
        program = (SIX, (), (("set", "b", 4), below, ("say", ("item", "b"))))
        due = (SIX, (), (front("below", *[(a, b) for a in (4, 5) for b in range(6)]), program[2][0], program[2][2]))
        self.check_fronted(program, due, 1)

    def test_what_is_said_and_then_complained_by(self):
        self.check_late(LATE)
        self.check_late(coins(SAY, BAD))
        self.check_late(coins(("say", 1), ("if", ("=", COINS, 4), (BAD,), ())))
        self.check_late(coins(("repeat", 2, (FULL, SAY, ("set", "coins", ("+", COINS, 1))))))
        self.check_late(coins(("call", "a"), ("call", "a"), calls=(("a", (NONE, LESS, SAY)),)))
        # One run alone does.
        self.check_late(coins(("if", ("=", COINS, 2), (SAY,), ()), ("check", "a", ("<", COINS, 2))))

    def test_other_runs_than_those_that_say_something_complain(self):
        program = coins(("if", ("<", COINS, 2), (SAY,), (BAD,)))
        self.check_fronted(program, coins(front("bad", (2,), (3,), (4,)), ("if", ("<", COINS, 2), (SAY,), ())), 1)
        program = coins(("if", ("=", COINS, 2), (SAY,), ()), NONE)
        self.check_fronted(program, coins(front("none", (0,)), program[2][0]), 1)


class LetsFrontTest(FaultCase):
    def check_wrong(self, word, at, thing, program=TILL):
        self.check_fault(InvalidPaper(word, at), lets_front, program, thing)

    def test_papers_that_are_right(self):
        self.check_same(front_paper(TILL), ("front", ROWS))
        self.assertIs(lets_front(TILL, ("front", ROWS)), True)
        self.assertIs(lets_front(thing=("front", ROWS), program=TILL), True)
        self.check_same(front_paper(program=LATE), ("late", (0,)))
        self.assertIs(lets_front(LATE, ("late", (0,))), False)
        for k in range(5):
            self.assertIs(lets_front(coins(SAY, BAD), ("late", (k,))), False)
        for program in (coins(), coins(SAY, GOOD), NESTED):
            self.check_same(front_paper(program), ("front", ()))
            self.assertIs(lets_front(program, ("front", ())), True)

    def test_shape(self):
        for thing in JUNK + INTEGERS + NAMES + STEPS + CONDITIONS:
            self.check_wrong("shape", -1, thing)
            self.check_wrong("shape", -1, (thing, ROWS))
            self.check_wrong("shape", -1, (thing, (4,)), LATE)
        for thing in with_wrong_length(("front", ROWS)) + with_wrong_length(("late", (0,))) + [(ROWS, "front"), ROWS]:
            self.check_wrong("shape", -1, thing)
        for word in ("Front", "front ", "fron", "", "comes", "full", ("front",), True):
            self.check_wrong("shape", -1, (word, ROWS))
        for rows in (None, True, 0, "", "ab", [], list(ROWS), ROWS[0], {}, "front"):
            self.check_wrong("shape", -1, ("front", rows))

    def test_shape_of_rows(self):
        wrong = (
            None, True, 0, "", "ab", [], (), ("full",), ("full", (), ()), ["full", ()], ("full", []), ("full", None),
            ("full", "none"), ("full", 4), (None, ()), (0, ()), (True, ()), ((), ()), (["full"], ()), (("full",), ()),
        )
        for k in range(2):
            for rows in with_each_changed(ROWS, k, wrong):
                self.check_wrong("shape", -1, ("front", rows))
        # Ahead of "words" and "states".
        self.check_wrong("shape", -1, ("front", (("a", ()), ("full", None))))
        self.check_wrong("shape", -1, ("front", (None,)), LATE)

    def test_words(self):
        full, none = ROWS
        for rows in (
            (), (full,), (none,), (none, full), (full, none, none), (full, full, none), (("a", ()), full, none),
            (full, ("g", ()), none), (full, none, ("z", ())), (("Full", ((4,),)), none), (("full ", ((4,),)), none),
            (("", ((4,),)), none), (full, ("non", none[1])),
        ):
            self.check_wrong("words", -1, ("front", rows))
            # Ahead of "states".
            self.check_wrong("words", -1, ("front", tuple([(word, (None,)) for word, _ in rows])) if rows else ("front", ()))
        self.check_wrong("words", -1, ("front", (("good", ()),)), coins(GOOD))

    def test_states(self):
        for k, (word, states) in enumerate(ROWS):
            others = [(), states + states, states[1:], states + ((3,),), ((2,),) + states, ((2,), (3,)), ((5,),), ((-1,),)]
            others = others + [(other,) + states[1:] for other in NO_STATES] + [states + (other,) for other in NO_STATES]
            for other in others + [((0,), (1,), (2,), (3,), (4,)), (4,), (0, 1), ("full",)]:
                rows = ROWS[:k] + ((word, other),) + ROWS[k + 1:]
                self.check_wrong("states", k, ("front", rows))
                # The first of two.
                self.check_wrong("states", k, ("front", ROWS[:k] + ((word, other),) + tuple([
                    (later, ()) for later, _ in ROWS[k + 1:]])))
        self.check_wrong("states", 1, ("front", (ROWS[0], ("none", ((1,), (0,))))))
        self.check_wrong("states", 0, ("front", ((ROWS[0][0], ROWS[1][1]), (ROWS[1][0], ROWS[0][1]))))

    def test_true_is_not_1(self):
        self.check_wrong("states", 1, ("front", (ROWS[0], ("none", ((0,), (True,))))))
        self.check_wrong("states", 1, ("front", (ROWS[0], ("none", ((False,), (1,))))))
        self.check_wrong("state", -1, ("late", (True,)), coins(SAY, BAD))
        self.check_wrong("state", -1, ("late", (False,)), LATE)

    def test_something_is_said_from_one_of_them(self):
        self.check_wrong("states", 1, ("front", (("full", ((4,),)), ("none", ((0,),)))), LATE)
        self.check_wrong("states", 0, ("front", (("bad", tuple([(k,) for k in range(5)])),)), coins(SAY, BAD))
        # From 3 alone something is said before.
        program = coins(("if", ("=", COINS, 3), (SAY,), ()), ("check", "a", ("<", COINS, 2)), ("check", "b", ("<", 0, COINS)))
        self.check_wrong("states", 0, ("front", (("a", ((2,), (3,), (4,))), ("b", ((0,),)))), program)
        self.assertIs(lets_front(program, ("late", (3,))), False)

    def test_no_late_states(self):
        for state in NO_STATES:
            self.check_wrong("state", -1, ("late", state), LATE)
            self.check_wrong("state", -1, ("late", state))
        for program, late in ((LATE, (0,)), (TILL, ()), (coins(BAD, SAY), ()), (coins(SAY), ())):
            for k in range(5):
                if k not in late:
                    self.check_wrong("late", -1, ("late", (k,)), program)


class ChanceTest(FaultCase):
    def setUp(self):
        self.programs = [TILL, LATE, NESTED] + made_programs(250)

    def late_states(self, program):
        tolds = [(state, slow_run(program, state)[0]) for state in all_states(program[0])]
        return [state for state, (said, word) in tolds if said and word is not None]

    def front_form(self, program):
        items, calls, steps = slow_dropped(program, keys_of_checks(program))
        return items, calls, tuple([front(word, *states) for word, states in self.rows(program)]) + steps

    def rows(self, program):
        tolds = {state: slow_run(program, state)[0][1] for state in all_states(program[0])}
        words = sorted(set(tolds.values()) - {None})
        return tuple([(word, tuple([state for state in tolds if tolds[state] == word])) for word in words])

    def test_by_another_way(self):
        many = {True: 0, False: 0}
        for program in self.programs:
            late, form, rows = self.late_states(program), self.front_form(program), self.rows(program)
            may = not late
            many[may] = many[may] + 1
            self.assertIs(slow_equal(program, form), may)
            self.assertIs(may_front(program), may)
            self.check_same(fronted(program), form if may else None)
            self.check_same(fewest_at_all(program), len(rows) if may else None)
            paper = front_paper(program)
            self.assertIs(lets_front(program, paper), may)
            if may:
                self.check_same(paper, ("front", rows))
            else:
                self.assertIn(paper, [("late", state) for state in late])
                at = [k for k, (_, states) in enumerate(rows) if set(states) & set(late)][0]
                self.check_fault(InvalidPaper("states", at), lets_front, program, ("front", rows))
            for state in all_states(program[0]):
                if state in late:
                    self.assertIs(lets_front(program, ("late", state)), False)
                else:
                    self.check_fault(InvalidPaper("late", -1), lets_front, program, ("late", state))
        self.assertGreater(min(many.values()), 20)

    def test_consequences(self):
        for program in self.programs:
            if not program[2]:
                continue
            first = (None, (0,))
            told = [key for key in checks_of(program) if complaints_by(program, key)]
            self.assertIs(all([may_come(program, key, first) for key in told]), may_front(program))
            if not may_front(program):
                continue
            form = fronted(program)
            self.assertTrue(are_equal(program, form))
            for key in checks_of(form):
                self.assertIs(may_drop(form, key), False)
            self.check_same(fewest_checks(form), (checks_of(form),))
            self.assertEqual(len(checks_of(form)), fewest_at_all(program))
            # No alike program has fewer checks.
            self.assertLessEqual(fewest_at_all(program), len(fewest_checks(program)[0]))
            self.check_same(fronted(form), form)

    def test_front_forms_of_front_forms_without_a_check(self):
        form = fronted(TILL)
        for key in checks_of(form):
            left = dropped(form, key)
            self.assertFalse(are_alike(TILL, left) or slow_alike(TILL, left))
        self.assertEqual(form[0], ITEMS)

    def test_arguments_stay_as_they_are_and_no_call_hangs_on_an_earlier_one(self):
        told = repr(self.programs)
        first = [(fronted(program), front_paper(program)) for program in self.programs]
        again = [(fronted(program), front_paper(program)) for program in self.programs[::-1]]
        self.assertEqual(again[::-1], first)
        thing = ["front", [["full", [(4,)]]]]
        self.check_fault(InvalidPaper("shape", -1), lets_front, TILL, thing)
        self.check_same([repr(self.programs), thing], [told, ["front", [["full", [(4,)]]]]])


if __name__ == "__main__":
    unittest.main()
