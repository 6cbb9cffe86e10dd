"""[30], [31]: alike papers and their checker."""

import unittest

from faultcases import FaultCase
from firstfault.alikechecker import lets_alike
from firstfault.alikepapers import alike_paper
from firstfault.errors import InvalidPaper, NotUsable
from makers import all_states, made_programs, slow_alike, slow_run, slow_tolds
from samples import (
    BAD, BIG, CONDITIONS, FULL, INTEGERS, ITEMS, JUNK, LESS, NAMES, NESTED, NONE, SIX, STEPS, TILL, coins,
    with_each_changed, with_wrong_length,
)

FEWER = (ITEMS, (), TILL[2][1:])
# Alike, but not equal.
LONGER = (ITEMS, (), TILL[2] + (LESS,))
ROWS = (((), "none"), ((), "none"), ((0,), None), ((1,), None), ((), "full"))
NO_TOLDS = (
    None, True, 0, "", "none", (), [], ((),), ((), None, None), [(), None], ([], None), (None, None), ((), 0), ((), True),
    ((), ()), ((), ("none",)), ((True,), None), ((0, False), None), (("0",), None), ((None,), None), (((0,),), None),
    (0, None), ("", None), ("none", ()), ((0,), ["none"]),
)


class AlikePaperTest(FaultCase):
    def test_alike(self):
        self.check_same(alike_paper(TILL, TILL), ("alike", ROWS))
        self.check_same(alike_paper(other=LONGER, one=TILL), ("alike", ROWS))
        self.check_same(alike_paper(coins(), coins(LESS)), ("alike", (((), None),) * 5))

    def test_parted(self):
        self.check_same(alike_paper(TILL, FEWER), ("parted", (4,)))
        word, state = alike_paper(coins(FULL), coins(NONE))
        self.assertEqual(word, "parted")
        self.assertIn(state, ((0,), (4,)))

    def test_other_items(self):
        for items in ((("coin", 0, 4),), (("coins", 0, 5),), (("coins", 0, 4), ("d", 0, 0)), SIX):
            for one, other in ((TILL, (items, (), ())), ((items, (), ()), TILL)):
                self.check_fault(NotUsable("items", -1), alike_paper, one, other)
                for thing in (None, [], ("alike", ROWS), ("parted", (4,)), ("alike", ()), 0):
                    self.check_fault(NotUsable("items", -1), lets_alike, one, other, thing)


class LetsAlikeTest(FaultCase):
    def check_wrong(self, word, at, thing, one=TILL, other=LONGER):
        self.check_fault(InvalidPaper(word, at), lets_alike, one, other, thing)

    def test_example(self):
        self.check_same([lets_alike(TILL, FEWER, ("parted", (4,))), len(TILL[2])], [False, 3])

    def test_papers_that_are_right(self):
        self.assertIs(lets_alike(TILL, LONGER, ("alike", ROWS)), True)
        self.assertIs(lets_alike(thing=("alike", ROWS), other=TILL, one=LONGER), True)
        for k in (0, 4):
            self.assertIs(lets_alike(coins(FULL), coins(NONE), ("parted", (k,))), False)
        self.assertIs(lets_alike(coins(BAD), coins(BAD, LESS), ("alike", (((), "bad"),) * 5)), True)

    def test_shape(self):
        for thing in JUNK + INTEGERS + NAMES + STEPS + CONDITIONS:
            self.check_wrong("shape", -1, thing)
            self.check_wrong("shape", -1, (thing, ROWS))
            self.check_wrong("shape", -1, (thing, (4,)))
        for paper in (("alike", ROWS), ("parted", (4,))):
            for thing in with_wrong_length(paper) + [paper[::-1], (paper,)]:
                self.check_wrong("shape", -1, thing)
        for word in ("Alike", "alik", "alike ", "", "same", ("alike",), True):
            self.check_wrong("shape", -1, (word, ROWS))
        self.check_wrong("shape", -1, ("parted", ROWS))
        self.check_wrong("shape", -1, ("parted", ((4,),)))
        self.check_wrong("shape", -1, ("alike", (4,)))
        for thing in (None, True, 0, "", "ab", [], [((), None)], {}):
            self.check_wrong("shape", -1, ("alike", thing))
            self.check_wrong("shape", -1, ("parted", thing))

    def test_shape_of_each_row(self):
        for k in range(5):
            for rows in with_each_changed(ROWS, k, NO_TOLDS):
                self.check_wrong("shape", -1, ("alike", rows))
        # Ahead of "many", and of a row ahead.
        self.check_wrong("shape", -1, ("alike", NO_TOLDS[:1]))
        self.check_wrong("shape", -1, ("alike", (((), None),) + ROWS[1:4] + (None,)))

    def test_shape_of_a_state(self):
        for state in (None, 4, True, "4", [4], (True,), (False,), ("4",), (None,), ((4,),), (4, None), [], ([],)):
            self.check_wrong("shape", -1, ("parted", state), TILL, FEWER)

    def test_true_is_not_1(self):
        one = coins(("say", ("item", "coins")))
        self.assertIs(lets_alike(one, one, ("alike", tuple([((k,), None) for k in range(5)]))), True)
        for k, wrong in ((0, False), (1, True)):
            rows = tuple([((wrong if n == k else n,), None) for n in range(5)])
            self.check_wrong("shape", -1, ("alike", rows), one, one)
        self.check_wrong("shape", -1, ("parted", (True,)), coins(NONE), coins())
        self.check_wrong("same", -1, ("parted", (1,)), coins(NONE), coins())
        self.assertIs(lets_alike(coins(NONE), coins(), ("parted", (0,))), False)
        self.check_wrong("shape", -1, ("parted", (False,)), coins(NONE), coins())

    def test_many(self):
        for rows in ((), ROWS[:4], ROWS[1:], ROWS + ROWS[4:], ROWS[:1] + ROWS, ROWS * 2, ROWS[:2] + ROWS[3:]):
            self.check_wrong("many", -1, ("alike", rows))
            # Ahead of "row".
            self.check_wrong("many", -1, ("alike", rows), TILL, FEWER)
        self.check_wrong("many", -1, ("alike", (((BIG,), "x"),)))

    def test_rows_that_tell_something_else(self):
        wrong = (((), "no"), ((), ""), ((), None), ((5,), None), ((BIG,), "none"), ((0, 0), None), ((1,), "full"))
        for k in range(5):
            for rows in with_each_changed(ROWS, k, wrong):
                self.check_wrong("row", k, ("alike", rows))
                # The first of two.
                self.check_wrong("row", k, ("alike", rows[:k + 1] + wrong[:1] * (4 - k)))

    def test_rows_turned_and_exchanged(self):
        self.check_wrong("row", 0, ("alike", ROWS[::-1]))
        self.check_wrong("row", 1, ("alike", ROWS[:1] + ROWS[2:] + ROWS[1:2]))
        self.check_wrong("row", 2, ("alike", ROWS[:2] + (ROWS[3], ROWS[2], ROWS[4])))
        self.check_wrong("row", 3, ("alike", ROWS[:3] + (ROWS[4], ROWS[3])))
        self.assertIs(lets_alike(TILL, TILL, ("alike", (ROWS[1], ROWS[0]) + ROWS[2:])), True)

    def test_programs_that_part(self):
        for rows in (ROWS, tuple(slow_tolds(FEWER))):
            for one, other in ((TILL, FEWER), (FEWER, TILL)):
                self.check_wrong("row", 4, ("alike", rows), one, other)

    def test_no_states(self):
        for state in ((), (5,), (-1,), (BIG,), (4, 4), (0, 0)):
            self.check_wrong("state", -1, ("parted", state), TILL, FEWER)
            # Ahead of "same".
            self.check_wrong("state", -1, ("parted", state))

    def test_states_that_part_nothing(self):
        for k in range(4):
            self.check_wrong("same", -1, ("parted", (k,)), TILL, FEWER)
        for k in range(5):
            self.check_wrong("same", -1, ("parted", (k,)))

    def test_chance(self):
        for program in [TILL, NESTED] + made_programs(150):
            for other in (program, program[:2] + (program[2][:-1],), program[:2] + (program[2][::-1],)):
                paper = alike_paper(program, other)
                self.assertIs(lets_alike(program, other, paper), slow_alike(program, other))
                if paper[0] == "alike":
                    self.check_same(paper, ("alike", tuple(slow_tolds(program))))
                for state in all_states(program[0]):
                    if slow_run(program, state)[0] == slow_run(other, state)[0]:
                        self.check_wrong("same", -1, ("parted", state), program, other)
                    else:
                        self.assertIs(lets_alike(program, other, ("parted", state)), False)

    def test_arguments_stay_as_they_are(self):
        thing = ["alike", [((), "none")]]
        told = repr((TILL, FEWER, thing))
        self.check_wrong("shape", -1, thing)
        first = [alike_paper(TILL, other) for other in (TILL, FEWER, LONGER)]
        self.assertEqual([alike_paper(TILL, other) for other in (LONGER, FEWER, TILL)][::-1], first)
        self.assertEqual(repr((TILL, FEWER, thing)), told)


if __name__ == "__main__":
    unittest.main()
