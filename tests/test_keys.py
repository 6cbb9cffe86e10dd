"""[6], [9], [14]: all keys in their order, the steps that they reach, and values that are no keys."""

import unittest

from firstfault.errors import FaultError, ProgramError, UnknownKey
from firstfault.keys import all_keys, is_key, step_at, steps_around
from samples import (
    BIG, CALLS, FULL, INNER, INTEGERS, ITEMS, JUNK, LESS, NAMES, NESTED, NESTED_KEYS, NO_PLACES, NONE, PLACES, SAY, STEPS,
    TILL, nested,
)


class KeysTest(unittest.TestCase):
    def check_unknown(self, program, key):
        with self.assertRaises(UnknownKey) as caught:
            step_at(program, key)
        self.assertIs(caught.exception.key, key)
        self.assertTrue(isinstance(caught.exception, ProgramError) and isinstance(caught.exception, FaultError))

    def test_example(self):
        keys = ((None, (0,)), (None, (1,)), (None, (1, 0, 0)), (None, (1, 0, 1)), (None, (2,)))
        self.assertEqual([all_keys(TILL), step_at(TILL, (None, (1, 0, 1))) == LESS], [keys, True])

    def test_all_steps_of_the_example(self):
        steps = [step_at(TILL, key) for key in all_keys(TILL)]
        self.assertEqual(steps, [FULL, TILL[2][1], NONE, LESS, TILL[2][2]])

    def test_all_keys_in_their_order(self):
        self.assertEqual(repr(all_keys(NESTED)), repr(NESTED_KEYS))
        self.assertEqual(all_keys(program=NESTED), NESTED_KEYS)

    def test_calls_stand_in_their_order_not_by_name(self):
        program = (ITEMS, (("b", (FULL,)), ("a", (LESS, FULL)), ("c", ())), (("call", "c"),))
        self.assertEqual(all_keys(program), (("b", (0,)), ("a", (0,)), ("a", (1,)), (None, (0,))))
        self.assertEqual([step_at(program, key) for key in all_keys(program)], [FULL, LESS, FULL, ("call", "c")])

    def test_no_steps(self):
        for calls in ((), (("a", ()),), (("a", ()), ("b", ()))):
            self.assertEqual(repr(all_keys((ITEMS, calls, ()))), "()")
            for key in ((None, (0,)), ("a", (0,)), (None, ())):
                self.check_unknown((ITEMS, calls, ()), key)

    def test_steps_in_calls_and_steps(self):
        at = [
            (("one", (0,)), INNER), (("one", (0, 0, 0)), SAY), (("one", (0, 0, 1)), ("set", "b", BIG)),
            (("one", (0, 1, 0)), ("repeat", ("item", "b"), (SAY,))), (("one", (0, 1, 0, 0, 0)), SAY),
            (("one", (1,)), ("call", "zed")), ((None, (0, 1, 0)), ("call", "one")),
            ((None, (1, 0, 0, 1, 0)), ("set", "a", 0)), ((None, (1, 0, 1)), SAY), ((None, (2,)), ("call", "zed")),
        ]
        for key, step in at:
            self.assertEqual(step_at(NESTED, key), step, key)
            self.assertEqual(step_at(key=key, program=NESTED), step)

    def test_a_key_leads_to_its_step(self):
        for part, path in NESTED_KEYS:
            found = NESTED[2] if part is None else dict(CALLS)[part]
            for at, k in enumerate(path):
                found = found[k] if at % 2 == 0 else found[2 + k]
            self.assertIs(step_at(NESTED, (part, path)), found)

    def test_values_that_are_no_keys(self):
        for key in NO_PLACES + PLACES + JUNK + INTEGERS + NAMES + STEPS:
            self.check_unknown(NESTED, key)

    def test_places(self):
        for key in NESTED_KEYS + PLACES:
            self.assertIsNotNone(steps_around(NESTED, key), key)
        for key in NO_PLACES + JUNK + INTEGERS + NAMES + STEPS:
            self.assertIsNone(steps_around(NESTED, key), key)

    def test_keys_by_form(self):
        for key in NESTED_KEYS + PLACES + ((None, (0, 0)), ("two", (9, 9, 9, 9)), (None, (BIG,))):
            self.assertIs(is_key(key), True)
        for key in ((None, ()), (None, (-1,)), (None, (True,)), ("A", (0,)), [None, (0,)], (None, [0]), (0, (0,))) + JUNK:
            self.assertIs(is_key(key), False)

    def test_deep(self):
        many = 19
        program = (ITEMS, (), (nested(FULL, lambda step: ("repeat", 1, (step,)), many),))
        path = (0,) + (0, 0) * many
        self.assertEqual(all_keys(program), tuple([(None, path[:2 * k + 1]) for k in range(many + 1)]))
        self.assertEqual(step_at(program, (None, path)), FULL)
        self.check_unknown(program, (None, path + (0, 0)))

    def test_arguments_stay_as_they_are(self):
        key = [None, [0, [1]]]
        self.check_unknown(NESTED, key)
        told = repr(NESTED)
        all_keys(NESTED)
        step_at(NESTED, (None, (1, 0, 1)))
        self.assertEqual([repr(key), repr(NESTED)], ["[None, [0, [1]]]", told])


if __name__ == "__main__":
    unittest.main()
