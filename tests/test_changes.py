"""[6], [9], [15]: programs with a step changed, taken out or put in."""

import unittest

from firstfault.changes import with_step, with_step_ahead, without_step
from firstfault.errors import InvalidPaper, UnknownKey
from firstfault.keys import all_keys, step_at
from firstfault.programchecker import lets_program
from samples import (
    BIG, CALLS, FULL, INNER, INTEGERS, ITEMS, JUNK, LESS, NAMES, NESTED, NESTED_KEYS, NO_PLACES, NONE, PAIR, PLACES, SAY,
    STEPS, TILL,
)

NEW = ("check", "new", ("in", ((0, 0),)))
WRONG_STEPS = JUNK + INTEGERS + (list(NEW), (NEW,), ("say", True), ("check", "new"))


class ChangesTest(unittest.TestCase):
    def check_paper(self, word, at, function, *given):
        with self.assertRaises(InvalidPaper) as caught:
            function(*given)
        self.assertEqual(repr((caught.exception.word, caught.exception.at)), repr((word, at)))

    def check_unknown(self, key, function, *given):
        with self.assertRaises(UnknownKey) as caught:
            function(*given)
        self.assertIs(caught.exception.key, key)

    def test_example(self):
        taken = without_step(TILL, (None, (1, 0, 0)))[2][1]
        self.assertEqual(taken, ("repeat", 2, (("set", "coins", ("-", ("item", "coins"), 1)),)))
        self.assertEqual(with_step_ahead(TILL, (None, (3,)), FULL)[2][3] == FULL, True)

    def test_the_till(self):
        full, repeat, say = TILL[2]
        self.assertEqual(with_step(TILL, (None, (1,)), LESS), (ITEMS, (), (full, LESS, say)))
        self.assertEqual(with_step(TILL, (None, (1, 0, 1)), FULL), (ITEMS, (), (full, ("repeat", 2, (NONE, FULL)), say)))
        self.assertEqual(without_step(TILL, (None, (0,))), (ITEMS, (), (repeat, say)))
        self.assertEqual(without_step(TILL, (None, (1,))), (ITEMS, (), (full, say)))
        self.assertEqual(without_step(TILL, (None, (2,))), (ITEMS, (), (full, repeat)))
        self.assertEqual(with_step_ahead(TILL, (None, (0,)), LESS), (ITEMS, (), (LESS, full, repeat, say)))
        self.assertEqual(with_step_ahead(TILL, (None, (3,)), LESS), (ITEMS, (), (full, repeat, say, LESS)))
        behind = ("repeat", 2, (NONE, LESS, FULL))
        self.assertEqual(with_step_ahead(TILL, (None, (1, 0, 2)), FULL), (ITEMS, (), (full, behind, say)))

    def test_second_steps_and_calls(self):
        first, second, third = NESTED[2]
        changed = with_step(NESTED, (None, (0, 1, 1)), SAY)
        self.assertEqual(changed, (PAIR, CALLS, (first[:3] + ((("call", "one"), SAY),), second, third)))
        changed = with_step_ahead(NESTED, (None, (0, 0, 0)), SAY)
        self.assertEqual(changed, (PAIR, CALLS, (first[:2] + ((SAY,), first[3]), second, third)))
        changed = without_step(NESTED, (None, (1, 0, 0, 1, 0)))
        both = (second[2][0][:3] + ((),), SAY)
        self.assertEqual(changed, (PAIR, CALLS, (first, second[:2] + (both,), third)))
        changed = without_step(NESTED, ("one", (0, 1, 0, 0, 0)))
        inner = INNER[:3] + ((("repeat", ("item", "b"), ()),),)
        self.assertEqual(changed, (PAIR, (CALLS[0], ("one", (inner, ("call", "zed")))), NESTED[2]))
        changed = with_step_ahead(NESTED, ("zed", (0,)), NEW)
        self.assertEqual(changed, (PAIR, (("zed", (NEW,)), CALLS[1]), NESTED[2]))

    def test_each_key_with_another_step(self):
        for key in NESTED_KEYS:
            changed = with_step(NESTED, key, NEW)
            self.assertEqual(step_at(changed, key), NEW)
            self.assertEqual(with_step(changed, key, step_at(NESTED, key)), NESTED)
            left = [other for other in NESTED_KEYS if not stands_in(other, key)]
            self.assertEqual(list(all_keys(changed)), left)
            self.assertEqual(with_step(step=NEW, key=key, program=NESTED), changed)

    def test_each_place_with_one_step_more(self):
        for place in NESTED_KEYS + PLACES:
            changed = with_step_ahead(NESTED, place, NEW)
            self.assertEqual(step_at(changed, place), NEW)
            self.assertEqual(lets_program(changed), lets_program(NESTED) + 1)
            self.assertEqual(without_step(changed, place), NESTED)
            self.assertEqual(with_step_ahead(step=NEW, place=place, program=NESTED), changed)
            self.assertEqual(without_step(key=place, program=changed), NESTED)
        for place in NESTED_KEYS:
            behind = (place[0], place[1][:-1] + (place[1][-1] + 1,))
            self.assertEqual(step_at(with_step_ahead(NESTED, place, NEW), behind), step_at(NESTED, place))

    def test_each_key_taken_out(self):
        for key in NESTED_KEYS:
            many = len([other for other in NESTED_KEYS if other == key or stands_in(other, key)])
            self.assertEqual(lets_program(without_step(NESTED, key)), lets_program(NESTED) - many)
            self.assertEqual(with_step_ahead(without_step(NESTED, key), key, step_at(NESTED, key)), NESTED)

    def test_steps_with_steps_in_them_are_put_in_whole(self):
        changed = with_step(TILL, (None, (1, 0, 0)), TILL[2][1])
        self.assertEqual(changed[2][1], ("repeat", 2, (TILL[2][1], LESS)))
        self.assertEqual(without_step(changed, (None, (1, 0, 0, 0, 0)))[2][1], ("repeat", 2, (("repeat", 2, (LESS,)), LESS)))

    def test_into_no_steps(self):
        empty = (ITEMS, (("a", ()),), ())
        self.assertEqual(with_step_ahead(empty, (None, (0,)), FULL), (ITEMS, (("a", ()),), (FULL,)))
        self.assertEqual(with_step_ahead(empty, ("a", (0,)), FULL), (ITEMS, (("a", (FULL,)),), ()))
        self.assertEqual(without_step((ITEMS, (), (FULL,)), (None, (0,))), (ITEMS, (), ()))
        for place in ((None, (1,)), ("a", (1,))):
            self.check_unknown(place, with_step_ahead, empty, place, FULL)

    def test_values_that_are_no_keys(self):
        for key in NO_PLACES + PLACES + JUNK + INTEGERS + NAMES + STEPS:
            self.check_unknown(key, with_step, NESTED, key, NEW)
            self.check_unknown(key, without_step, NESTED, key)

    def test_values_that_are_no_places(self):
        for place in NO_PLACES + JUNK + INTEGERS + NAMES + STEPS:
            self.check_unknown(place, with_step_ahead, NESTED, place, NEW)

    def test_the_key_ahead_of_the_step(self):
        for step in WRONG_STEPS:
            for key in ((None, (9,)), (None, (True,)), [None, [0]], None):
                self.check_unknown(key, with_step, NESTED, key, step)
                self.check_unknown(key, with_step_ahead, NESTED, key, step)

    def test_values_that_are_no_steps(self):
        for step in WRONG_STEPS:
            for key in NESTED_KEYS:
                self.check_paper("shape", -1, with_step, NESTED, key, step)
            for place in NESTED_KEYS + PLACES:
                self.check_paper("shape", -1, with_step_ahead, NESTED, place, step)

    def test_steps_that_do_not_fit_the_program(self):
        for key in NESTED_KEYS:
            self.check_paper("name", key, with_step, NESTED, key, ("set", "coins", 0))
            self.check_paper("name", key, with_step, NESTED, key, ("call", "two"))
            self.check_paper("part", key, with_step, NESTED, key, NONE)
            self.check_paper("part", key, with_step_ahead, NESTED, key, ("say", ("item", "coins")))
        for place in PLACES:
            self.check_paper("name", place, with_step_ahead, NESTED, place, ("set", "coins", BIG))
        wrong = ("repeat", 1, (SAY, ("check", "a", ("in", ((3, 0),)))))
        self.check_paper("part", (None, (0, 1, 1, 0, 1)), with_step, NESTED, (None, (0, 1, 1)), wrong)
        self.check_paper("part", ("zed", (0, 0, 1)), with_step_ahead, NESTED, ("zed", (0,)), wrong)

    def test_calls_that_are_not_ahead(self):
        self.check_paper("name", ("zed", (0,)), with_step_ahead, NESTED, ("zed", (0,)), ("call", "one"))
        self.check_paper("name", ("zed", (0,)), with_step_ahead, NESTED, ("zed", (0,)), ("call", "zed"))
        self.check_paper("name", ("one", (0, 0, 1)), with_step, NESTED, ("one", (0, 0, 1)), ("call", "one"))
        self.assertEqual(with_step(NESTED, ("one", (0,)), ("call", "zed"))[1][1], ("one", (("call", "zed"),) * 2))

    def test_arguments_stay_as_they_are(self):
        told = repr(NESTED)
        step, key = ["say", [1]], [None, [0]]
        self.check_paper("shape", -1, with_step, NESTED, (None, (0,)), step)
        self.check_paper("shape", -1, with_step_ahead, NESTED, (None, (0,)), step)
        self.check_unknown(key, without_step, NESTED, key)
        with_step(NESTED, (None, (0, 1, 0)), NEW)
        without_step(NESTED, ("one", (0,)))
        with_step_ahead(NESTED, ("zed", (0,)), NEW)
        self.assertEqual([repr(NESTED), repr(step), repr(key)], [told, "['say', [1]]", "[None, [0]]"])


def stands_in(other, key):
    """Whether the step with the other key stands within the step with this key."""
    return other[0] == key[0] and len(other[1]) > len(key[1]) and other[1][:len(key[1])] == key[1]


if __name__ == "__main__":
    unittest.main()
