"""[3], [4], [9], [12]: what is a program, and the first thing that is wrong with what is none."""

import unittest

from firstfault.errors import FaultError, InvalidPaper, PaperError
from firstfault.keys import all_keys
from firstfault.programchecker import lets_program
from samples import (
    BAD_NAMES, BAD_TUPLES_OF_STEPS, BIG, BOOLS, CONDITIONS, COUNTS, FULL, INTEGERS, ITEMS, JUNK, LESS, NAMES, NESTED,
    PAIR, SAY, STEPS, TILL, nested, with_each_changed, with_wrong_length,
)

GONE = ("item", "gone")
BAD_SAY = ("say", GONE)
BAD_SET = ("set", "gone", 1)


class ProgramCheckerTest(unittest.TestCase):
    def check_wrong(self, thing, word, at=-1):
        with self.assertRaises(InvalidPaper) as caught:
            lets_program(thing)
        self.assertEqual(repr((caught.exception.word, caught.exception.at)), repr((word, at)), thing)
        self.assertTrue(isinstance(caught.exception, PaperError) and isinstance(caught.exception, FaultError))

    def check_many(self, thing, many):
        self.assertEqual(repr(lets_program(thing)), repr(many))

    def test_how_many_steps(self):
        self.check_many(TILL, 5)
        self.check_many(NESTED, 15)
        self.check_many((ITEMS, (), ()), 0)
        self.check_many((ITEMS, (("a", ()), ("b", (FULL,))), ()), 1)
        self.check_many((ITEMS, (("a", (FULL, FULL)), ("b", (("call", "a"),))), (("call", "b"), ("call", "a"))), 5)
        self.check_many((ITEMS, (), (("if", FULL[2], (LESS, LESS), (FULL,)), ("repeat", 1, ()))), 5)
        for program in (TILL, NESTED):
            self.assertEqual(lets_program(thing=program), len(all_keys(program)))

    def test_more_than_the_limits(self):
        self.check_many((ITEMS, tuple([("a" + letter, (FULL,)) for letter in "abcdefgh"]), (FULL,) * 500), 508)
        self.check_many((tuple([("a" + letter, -BIG, BIG) for letter in "abcdefgh"]), (), ()), 0)
        self.check_many((ITEMS, (), (nested(LESS, lambda step: ("repeat", 1, (step,)), 18),)), 19)

    def test_any_other_value_has_no_shape(self):
        for thing in JUNK + INTEGERS + NAMES + COUNTS + CONDITIONS + STEPS:
            self.check_wrong(thing, "shape")

    def test_shape_of_the_whole(self):
        for thing in with_wrong_length(TILL):
            self.check_wrong(thing, "shape")
        for k in range(3):
            for thing in with_each_changed(TILL, k, (None, True, 0, "", "ab", [], [1], (1,), (None,))):
                self.check_wrong(thing, "shape")

    def test_shape_of_items(self):
        for name in BAD_NAMES + BOOLS + INTEGERS + (None, (), ["a"], ("a",)):
            self.check_wrong((((name, 0, 4),), (), ()), "shape")
        for k in (1, 2):
            for thing in JUNK + NAMES + COUNTS[len(INTEGERS):]:
                self.check_wrong(((("a", 0, 1)[:k] + (thing,) + ("a", 0, 1)[k + 1:],), (), ()), "shape")
        for row in with_wrong_length(("a", 0, 1)) + [None, 0, "abc", ()]:
            self.check_wrong(((row,), (), ()), "shape")
            self.check_wrong((ITEMS + (row,), (), ()), "shape")

    def test_shape_of_calls(self):
        for name in BAD_NAMES + BOOLS + INTEGERS + (None, (), ["a"], ("a",)):
            self.check_wrong((ITEMS, ((name, ()),), ()), "shape")
        for steps in BAD_TUPLES_OF_STEPS + ((FULL[:2],), (("say", True),)):
            self.check_wrong((ITEMS, (("a", ()), ("b", steps)), ()), "shape")
            self.check_wrong((ITEMS, (), steps), "shape")
        for row in with_wrong_length(("a", ())) + [None, 0, "ab", (), ["a", ()]]:
            self.check_wrong((ITEMS, (row,), ()), "shape")
            self.check_wrong((ITEMS, (("a", ()), row), ()), "shape")

    def test_shape_of_steps(self):
        for step in JUNK + COUNTS + (("say", False), ("call", "A"), ("repeat", 1, (("check", "a", 1),))):
            self.check_wrong((ITEMS, (), (FULL, step)), "shape")
            self.check_wrong((ITEMS, (("a", (FULL, step)),), ()), "shape")

    def test_no_items(self):
        self.check_wrong(((), (), ()), "items")
        self.check_wrong(((), (("a", ()), ("a", ())), (BAD_SET,)), "items")

    def test_items(self):
        a, b, c = ("a", 0, 0), ("b", -1, 1), ("c", -BIG, BIG)
        for items in ((a,), (a, b), (a, b, c), (b, c), (("a", 0, 0), ("aa", 0, 0)), (("z", -2, -2),)):
            self.check_many((items, (), ()), 0)
        self.check_wrong(((a, a), (), ()), "item", 1)
        self.check_wrong(((b, a), (), ()), "item", 1)
        self.check_wrong(((a, c, b), (), ()), "item", 2)
        self.check_wrong(((a, b, c, c), (), ()), "item", 3)
        self.check_wrong(((("aa", 0, 0), a), (), ()), "item", 1)
        self.check_wrong(((("a", 1, 0),), (), ()), "item", 0)
        self.check_wrong(((a, b, ("c", BIG, -BIG)), (), ()), "item", 2)
        self.check_wrong(((a, ("b", 0, -1), ("c", 0, -1)), (), ()), "item", 1)
        self.check_wrong(((b, a, ("c", 0, -1)), (), ()), "item", 1)
        self.check_wrong(((a, ("b", 0, -1), a), (), ()), "item", 1)

    def test_calls(self):
        self.check_many((ITEMS, (("b", ()), ("a", ()), ("ba", ())), ()), 0)
        self.check_wrong((ITEMS, (("a", ()), ("a", ())), ()), "call", 1)
        self.check_wrong((ITEMS, (("a", (FULL,)), ("b", ()), ("a", ())), ()), "call", 2)
        self.check_wrong((ITEMS, (("a", ()), ("b", ()), ("b", ()), ("a", ())), ()), "call", 2)

    def test_items_that_are_set(self):
        self.check_many((PAIR, (("c", (("set", "a", 1),)),), (("set", "b", ("item", "a")),)), 2)
        self.check_wrong((ITEMS, (), (FULL, BAD_SET)), "name", (None, (1,)))
        self.check_wrong((PAIR, (("a", (SAY, ("set", "c", 1))), ("c", ())), ()), "name", ("a", (1,)))
        self.check_wrong((ITEMS, (), (("if", ("in", ()), (), (LESS, BAD_SET)),)), "name", (None, (0, 1, 1)))
        self.check_wrong((ITEMS, (("a", (("repeat", 1, (BAD_SET,)),)),), ()), "name", ("a", (0, 0, 0)))

    def test_calls_of_calls(self):
        calls = (("b", ()), ("a", (("call", "b"),)), ("c", (("call", "a"), ("call", "b"))))
        self.check_many((ITEMS, calls, (("call", "c"), ("call", "a"), ("call", "b"))), 6)
        for name in ("d", "coins", "aa", "main"):
            self.check_wrong((ITEMS, calls, (("call", "a"), ("call", name))), "name", (None, (1,)))
            self.check_wrong((ITEMS, (("a", (("call", name),)),), ()), "name", ("a", (0,)))
        self.check_wrong((ITEMS, (("a", (("call", "a"),)),), ()), "name", ("a", (0,)))
        self.check_wrong((ITEMS, (("a", (FULL, ("call", "b"))), ("b", ())), ()), "name", ("a", (1,)))
        self.check_wrong((ITEMS, (("a", ()), ("b", (("call", "a"), ("call", "b")))), ()), "name", ("b", (1,)))
        within = ("if", FULL[2], (FULL, ("call", "b")), ())
        self.check_wrong((ITEMS, (("a", (("repeat", 1, (within,)),)), ("b", ())), ()), "name", ("a", (0, 0, 0, 0, 1)))
        self.check_wrong((ITEMS, (), (("call", "a"),)), "name", (None, (0,)))

    def test_numbers_and_conditions(self):
        wrong = (
            ("check", "a", ("<", GONE, 1)), ("check", "a", ("in", ((5,),))), ("check", "a", ("not", ("in", ((0, 0),)))),
            BAD_SAY, ("say", ("+", 1, GONE)), ("set", "coins", GONE), ("if", ("=", 0, GONE), (), ()),
            ("if", ("in", ((-1,), (0,))), (), ()), ("repeat", GONE, ()), ("repeat", ("*", ("item", "coins"), GONE), (FULL,)),
        )
        for step in wrong:
            self.check_wrong((ITEMS, (), (step,)), "part", (None, (0,)))
            self.check_wrong((ITEMS, (("a", (FULL, step)),), (step,)), "part", ("a", (1,)))
            self.check_wrong((ITEMS, (), (FULL, ("repeat", 0, (("if", ("in", ()), (), (step,)),)))), "part",
                             (None, (1, 0, 0, 1, 0)))
        right = (
            ("check", "gone", ("in", ((0,), (4,)))), ("say", ("item", "coins")), ("set", "coins", -BIG),
            ("if", ("not", ("in", ())), (), ()), ("repeat", ("item", "coins"), ()),
        )
        self.check_many((ITEMS, (), right), 5)

    def test_the_name_ahead_of_the_number(self):
        self.check_wrong((ITEMS, (), (("set", "gone", GONE),)), "name", (None, (0,)))
        self.check_wrong((ITEMS, (), (("say", GONE), BAD_SET)), "part", (None, (0,)))

    def test_a_step_ahead_of_the_steps_in_it(self):
        self.check_wrong((ITEMS, (), (("repeat", GONE, (BAD_SET,)),)), "part", (None, (0,)))
        self.check_wrong((ITEMS, (), (("if", ("in", ()), (BAD_SAY,), (BAD_SET,)), BAD_SET)), "part", (None, (0, 0, 0)))
        self.check_wrong((ITEMS, (), (("if", ("in", ()), (), (BAD_SET,)), BAD_SAY)), "name", (None, (0, 1, 0)))
        self.check_wrong((ITEMS, (), (("repeat", 1, (FULL,)), BAD_SAY)), "part", (None, (1,)))

    def test_calls_ahead_of_the_program(self):
        self.check_wrong((ITEMS, (("b", (BAD_SAY,)), ("a", (BAD_SET,))), (BAD_SET,)), "part", ("b", (0,)))
        self.check_wrong((ITEMS, (("b", (FULL,)), ("a", (BAD_SET,))), (BAD_SAY,)), "name", ("a", (0,)))
        self.check_wrong((ITEMS, (("b", (FULL,)), ("a", ())), (BAD_SAY,)), "part", (None, (0,)))

    def test_the_first_of_several_errors(self):
        twice = (("a", (BAD_SAY,)), ("a", ()))
        self.check_wrong(((("b", 1, 0), ("a", 0, 0)), twice, (BAD_SET, ("say", None))), "shape")
        self.check_wrong(((), twice, (BAD_SET,)), "items")
        self.check_wrong(((("b", 1, 0), ("a", 0, 0)), twice, (BAD_SET,)), "item", 0)
        self.check_wrong(((("b", 0, 0), ("a", 0, 0)), twice, (BAD_SET,)), "item", 1)
        self.check_wrong((ITEMS, twice, (BAD_SET,)), "call", 1)
        self.check_wrong((ITEMS, twice[:1], (BAD_SET,)), "part", ("a", (0,)))

    def test_arguments_stay_as_they_are(self):
        thing = (ITEMS, (), (["say", [1, (2, [3])]],))
        told = repr(thing)
        self.check_wrong(thing, "shape")
        self.check_wrong((ITEMS, (), [FULL]), "shape")
        self.assertEqual(repr(thing), told)


if __name__ == "__main__":
    unittest.main()
