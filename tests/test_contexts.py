"""[28], [29], [31]: steps that may be put for each other in every program, and contexts."""

from unittest import main

from faultcases import FaultCase
from firstfault.comparing import are_alike, are_equal
from firstfault.contextchecker import lets_context
from firstfault.contexts import context_paper, context_program, may_put_for
from firstfault.errors import InvalidPaper
from firstfault.programchecker import lets_program
from makers import Maker, all_states, slow_equal, slow_run, slow_tolds
from samples import (
    BAD, BAD_NAMES, BIG, COINS, CONDITIONS, FULL, GOOD, INTEGERS, ITEMS, JUNK, LESS, NAMES, NONE, SIX, STEPS, with_wrong_length,
)

A, B = ("item", "a"), ("item", "b")
SAY = ("say", COINS)
TWO = ("set", "coins", ("-", COINS, 2))
CALLS = (("a", (LESS,)), ("b", (("call", "a"), ("call", "a"))))
# Items, calls, and steps that may be put for each other.
SAME = (
    (ITEMS, (), (LESS, LESS), (TWO,)), (ITEMS, (), (), ()), (ITEMS, (), (SAY,), (SAY, GOOD)),
    (ITEMS, (), (BAD, SAY, LESS), (LESS, BAD)), (ITEMS, CALLS, (("call", "b"),), (TWO,)),
    (ITEMS, CALLS, (("call", "a"), ("call", "a")), (("call", "b"),)), (ITEMS, (), (("repeat", COINS, (LESS,)),), (
        ("if", ("=", COINS, 4), (("set", "coins", 1),), (("set", "coins", 0),)),)),
    (SIX, (), (("set", "a", 1), ("set", "b", 2)), (("set", "b", 2), ("set", "a", 1))),
)
# Items, calls and steps that may not: they part at the end, by one item, by what is said, by the word, by the order.
OTHER = (
    (ITEMS, (), (LESS,), ()), (ITEMS, (), (LESS,), (TWO,)), (ITEMS, (), (), (("set", "coins", 4),)),
    (SIX, (), (), (("set", "b", A),)), (SIX, (), (("set", "a", B),), (("set", "b", A),)),
    (SIX, (), (), (("set", "a", ("+", A, 1)), ("set", "b", ("+", B, 1)))),
    (ITEMS, (), (SAY,), ()), (ITEMS, (), (SAY, SAY), (SAY,)), (ITEMS, (), (SAY, FULL), (FULL, SAY)),
    (ITEMS, (), (FULL,), ()), (ITEMS, (), (FULL,), (NONE,)), (ITEMS, (), (BAD,), (("check", "a", ("in", ())),)),
    (ITEMS, (), (FULL, LESS), (LESS, FULL)), (ITEMS, CALLS, (("call", "a"),), (("call", "b"),)),
    (ITEMS, CALLS, (("call", "b"),), (LESS,)),
)


class PutForTest(FaultCase):
    def test_example(self):
        middle = context_program(ITEMS, (), (LESS,), ((4,), "coins"))[2][::2]
        self.check_same([may_put_for(ITEMS, (), (LESS, LESS), (TWO,)), middle],
                        [True, (("set", "coins", 4), ("say", ("item", "coins")))])

    def test_steps_that_may(self):
        for items, calls, one, other in SAME:
            for first, second in ((one, other), (other, one)):
                self.assertIs(may_put_for(items, calls, first, second), True)
                self.assertIs(context_paper(items, calls, first, second), None)

    def test_steps_that_may_not(self):
        for items, calls, one, other in OTHER:
            for first, second in ((one, other), (other, one)):
                self.assertIs(may_put_for(items, calls, first, second), False)
                state, item = context = context_paper(items, calls, first, second)
                self.assertIn(state, all_states(items))
                self.assertIn(item, [None] + [name for name, _, _ in items])
                programs = [context_program(items, calls, steps, context) for steps in (first, second)]
                self.assertFalse(are_alike(*programs))
                found = lets_context(items, calls, first, second, context)
                self.check_same(found, tuple([slow_tolds(program)[0] for program in programs]))

    def test_arguments(self):
        self.assertIs(may_put_for(other=(LESS,), one=(TWO,), calls=(), items=ITEMS), False)
        state, item = context_paper(other=(LESS,), one=(TWO,), calls=(), items=ITEMS)
        program = context_program(context=(state, item), steps=(LESS,), calls=(), items=ITEMS)
        self.assertEqual(lets_program(program), 3)
        found = lets_context(thing=(state, item), other=(LESS,), one=(TWO,), calls=(), items=ITEMS)
        self.assertNotEqual(found[0], found[1])


class ContextProgramTest(FaultCase):
    def test_without_an_item(self):
        self.check_same(context_program(ITEMS, (), (LESS, SAY), ((3,), None)),
                        (ITEMS, (), (("set", "coins", 3), LESS, SAY)))
        self.check_same(context_program(SIX, (), (), ((5, 0), None)), (SIX, (), (("set", "a", 5), ("set", "b", 0))))

    def test_with_an_item(self):
        due = (SIX, CALLS, (("set", "a", 5), ("set", "b", 0), ("call", "b"), ("say", ("item", "b"))))
        self.check_same(context_program(SIX, CALLS, (("call", "b"),), ((5, 0), "b")), due)

    def test_below_0(self):
        items = (("a", -3, -1),)
        self.check_same(context_program(items, (), (), ((-2,), "a")), (items, (), (("set", "a", -2), ("say", A))))

    def test_it_tells_the_same_from_all_states(self):
        for context in (((3,), None), ((4,), "coins")):
            tolds = slow_tolds(context_program(ITEMS, (), (FULL, SAY, LESS), context))
            self.assertEqual(tolds, tolds[:1] * 5)


class LetsContextTest(FaultCase):
    def check_wrong(self, word, thing, one=(LESS,), other=(), items=ITEMS, calls=()):
        self.check_fault(InvalidPaper(word, -1), lets_context, items, calls, one, other, thing)

    def test_example(self):
        self.check_same(lets_context(ITEMS, (), (LESS,), (), ((4,), "coins")), (((3,), None), ((4,), None)))

    def test_whatever_shows_it(self):
        for k in range(1, 5):
            self.check_same(lets_context(ITEMS, (), (LESS,), (), ((k,), "coins")), (((k - 1,), None), ((k,), None)))
        self.check_same(lets_context(ITEMS, (), (FULL,), (), ((4,), None)), (((), "full"), ((), None)))
        self.check_same(lets_context(ITEMS, (), (FULL,), (), ((4,), "coins")), (((), "full"), ((4,), None)))
        self.check_same(lets_context(ITEMS, (), (SAY,), (BAD,), ((2,), None)), (((2,), None), ((), "bad")))
        self.check_same(lets_context(SIX, (), (("set", "b", A),), (), ((3, 1), "b")), (((3,), None), ((1,), None)))
        self.check_same(lets_context(ITEMS, CALLS, (("call", "b"),), (("call", "a"),), ((3,), "coins")),
                        (((1,), None), ((2,), None)))

    def test_shape(self):
        for thing in JUNK + INTEGERS + NAMES + STEPS + CONDITIONS:
            self.check_wrong("shape", thing)
            self.check_wrong("shape", ((True,), thing))
        for thing in with_wrong_length(((4,), "coins")) + [[(4,), "coins"], ([4], "coins"), ("coins", (4,))]:
            self.check_wrong("shape", thing)
        for state in (None, 4, True, "4", "", [], [4], ("4",), (None,), (True,), (4, False), ((4,),), (4, [])):
            self.check_wrong("shape", (state, None))
            self.check_wrong("shape", (state, "coins"))
        for item in (0, 1, True, False, (), [], ("coins",), ("item", "coins"), ["coins"]):
            self.check_wrong("shape", ((4,), item))

    def test_state(self):
        for state in ((), (5,), (-1,), (BIG,), (-BIG,), (4, 4), (0, 0)):
            self.check_wrong("state", (state, None))
            self.check_wrong("state", (state, "coins"))
            # Ahead of "item".
            self.check_wrong("state", (state, "coin"))
        for state in ((0,), (6, 0), (0, 6), (0, -1), (0, 0, 0)):
            self.check_wrong("state", (state, "a"), items=SIX)

    def test_item(self):
        for item in BAD_NAMES + ("coin", "coinss", "a", "item", "None"):
            self.check_wrong("item", ((4,), item))
            # Ahead of "same".
            self.check_wrong("item", ((0,), item))
            self.check_wrong("item", ((0,), item), one=(LESS,), other=(LESS,))

    def test_same(self):
        self.check_wrong("same", ((0,), "coins"))
        self.check_wrong("same", ((4,), None))
        self.check_wrong("same", ((3, 1), "a"), one=(("set", "b", A),), items=SIX)
        self.check_wrong("same", ((3, 3), "b"), one=(("set", "b", A),), items=SIX)
        for items, calls, one, other in SAME:
            for state in all_states(items):
                for item in [None] + [name for name, _, _ in items]:
                    self.check_wrong("same", (state, item), one, other, items, calls)


class ChanceTest(FaultCase):
    def pairs(self):
        maker = Maker(9)
        for _ in range(120):
            items, calls, steps = maker.program()
            yield items, calls, steps, steps[::-1]
            yield items, calls, steps, steps[1:]
            yield items, calls, steps[:2], steps[2:]

    def test_exact(self):
        for items, calls, one, other in self.pairs():
            may = slow_equal((items, calls, one), (items, calls, other))
            self.assertIs(may_put_for(items, calls, one, other), may)
            self.assertIs(context_paper(items, calls, one, other) is None, may)
            shown = [context for context in self.contexts(items) if self.shows(items, calls, one, other, context)]
            self.assertIs(shown == [], may)
            if not may:
                self.assertIn(context_paper(items, calls, one, other), shown)

    def contexts(self, items):
        return [(state, item) for state in all_states(items) for item in [None] + [row[0] for row in items]]

    def shows(self, items, calls, one, other, context):
        """Whether the context shows that they may not, by lets_context and by another way, which have to agree."""
        state, item = context
        due = []
        for steps in (one, other):
            first = tuple([("set", row[0], number) for row, number in zip(items, state)])
            last = (("say", ("item", item)),) if item else ()
            due.append(slow_run((items, calls, first + steps + last), all_states(items)[-1])[0])
        if due[0] == due[1]:
            self.check_fault(InvalidPaper("same", -1), lets_context, items, calls, one, other, context)
            return False
        self.check_same(lets_context(items, calls, one, other, context), tuple(due))
        return True

    def test_what_may_be_put_for_each_other_may_wherever_it_stands(self):
        for items, calls, one, other in SAME:
            for wrap in (
                lambda steps: steps + (("say", ("item", items[0][0])),),
                lambda steps: (("repeat", 3, steps + (("say", ("item", items[0][0])),)),),
                lambda steps: (("if", ("<", ("item", items[0][0]), 3), steps, (BAD,)), ("say", ("item", items[-1][0]))),
            ):
                self.assertTrue(are_equal((items, calls, wrap(one)), (items, calls, wrap(other))))
                more = calls + (("zed", ()),)
                self.assertTrue(are_equal((items, more, wrap(one)), (items, calls, wrap(other))))
                called = [calls + (("own", wrap(steps)),) for steps in (one, other)]
                twice = (("call", "own"), ("call", "own"))
                self.assertTrue(are_equal((items, called[0], twice), (items, called[1], twice)))

    def test_equal_parts_one_behind_the_other(self):
        for items, calls, one, other in SAME:
            for more_items, more_calls, first, second in SAME:
                if (more_items, more_calls) == (items, calls):
                    self.assertTrue(may_put_for(items, calls, one + first, other + second))

    def test_arguments_stay_as_they_are(self):
        told = repr(OTHER)
        first = [context_paper(*row) for row in OTHER]
        self.assertEqual([context_paper(*row) for row in OTHER[::-1]][::-1], first)
        thing = [[4], "coins"]
        self.check_fault(InvalidPaper("shape", -1), lets_context, ITEMS, (), (LESS,), (), thing)
        self.check_same([repr(OTHER), thing], [told, [[4], "coins"]])


if __name__ == "__main__":
    main()
