"""[3], [4], [10]: steps by form."""

import unittest

from firstfault.steps import is_step, is_steps
from samples import (
    BAD_NAMES, BAD_TUPLES_OF_STEPS, BOOLS, CONDITIONS, COUNTS, INTEGERS, JUNK, NAMES, NESTED, STEPS, TILL,
    TUPLES_OF_STEPS, nested, with_each_changed, with_wrong_length,
)

WRONG_COUNTS = JUNK + CONDITIONS + STEPS + NAMES
WRONG_CONDITIONS = JUNK + COUNTS + STEPS + NAMES
WRONG_NAMES = BAD_NAMES + BOOLS + INTEGERS + (None, (), ("a",), ["a"], ("item", "a"))
# For each word: a step, and for each element behind the word what may and what may not stand there.
KINDS = (
    (("check", "full", ("=", 1, 1)), (NAMES, WRONG_NAMES), (CONDITIONS, WRONG_CONDITIONS)),
    (("say", 1), (COUNTS, WRONG_COUNTS)),
    (("set", "coins", 1), (NAMES, WRONG_NAMES), (COUNTS, WRONG_COUNTS)),
    (("if", ("in", ()), (("say", 1),), ()), (CONDITIONS, WRONG_CONDITIONS),
     (TUPLES_OF_STEPS, BAD_TUPLES_OF_STEPS), (TUPLES_OF_STEPS, BAD_TUPLES_OF_STEPS)),
    (("repeat", 2, (("say", 1),)), (COUNTS, WRONG_COUNTS), (TUPLES_OF_STEPS, BAD_TUPLES_OF_STEPS)),
    (("call", "a"), (NAMES, WRONG_NAMES)),
)
WORDS = ("check", "say", "set", "if", "repeat", "call")


class StepsTest(unittest.TestCase):
    def check_step(self, right, wrong):
        for thing in right:
            self.assertIs(is_step(thing), True, thing)
            self.assertIs(is_steps((thing,)), True, thing)
            self.assertIs(is_steps((("say", 1), thing)), True, thing)
        for thing in wrong:
            self.assertIs(is_step(thing), False, thing)
            self.assertIs(is_steps((thing,)), False, thing)
            self.assertIs(is_steps((("say", 1), thing)), False, thing)
            self.assertIs(is_steps((thing, ("say", 1))), False, thing)

    def test_right_steps(self):
        self.check_step(STEPS, ())

    def test_any_other_value(self):
        self.check_step((), JUNK + COUNTS + CONDITIONS + NAMES + INTEGERS)

    def test_each_element(self):
        for step, *kinds in KINDS:
            for k, (right, wrong) in enumerate(kinds):
                self.check_step(with_each_changed(step, k + 1, right), with_each_changed(step, k + 1, wrong))

    def test_the_word(self):
        for step, *_ in KINDS:
            others = [word for word in WORDS if word != step[0]] + ["", "Say", "item", "else", None, True, 1, (), ["say"]]
            self.check_step([step], with_each_changed(step, 0, others))

    def test_the_number_of_elements(self):
        for step, *_ in KINDS:
            self.check_step((), with_wrong_length(step) + [step[:1], step[1:]])

    def test_tuples_of_steps(self):
        for thing in TUPLES_OF_STEPS + (TILL[2], NESTED[2]):
            self.assertIs(is_steps(thing), True, thing)
            self.assertIs(is_steps(list(thing)), False, thing)
        for thing in BAD_TUPLES_OF_STEPS + STEPS + JUNK[4:]:
            self.assertIs(is_steps(thing), False, thing)

    def test_steps_are_no_step(self):
        self.assertEqual([is_step(()), is_step((("say", 1),)), is_steps(())], [False, False, True])

    def test_wrong_steps_within_steps(self):
        wraps = (
            lambda step: ("if", ("in", ()), (("say", 1), step), ()),
            lambda step: ("if", ("in", ()), (), (step, ("say", 1))),
            lambda step: ("repeat", 1, (step,)),
        )
        for wrap in wraps:
            for many in (1, 3, 18):
                self.check_step([nested(step, wrap, many) for step in STEPS], [nested(x, wrap, many) for x in JUNK])
                self.check_step((), [nested(("say", True), wrap, many), nested(("call", "A"), wrap, many)])

    def test_names_of_arguments(self):
        self.assertIs(is_step(thing=("say", 1)), True)
        self.assertIs(is_steps(thing=[]), False)

    def test_arguments_stay_as_they_are(self):
        thing = ("if", ("in", ()), (("say", 1),), [["say", 1]])
        told = repr(thing)
        self.assertEqual([is_step(thing), is_steps([thing]), is_steps((thing,)), repr(thing)], [False] * 3 + [told])


if __name__ == "__main__":
    unittest.main()
