"""[2], [3], [10]: integers, numbers, names and states."""

import unittest

from firstfault.kinds import is_integer, is_integer_tuple, is_name, is_number, is_state, is_state_set
from samples import BAD_NAMES, BAD_STATE_SETS, BIG, BOOLS, COUNTS, INTEGERS, ITEMS, JUNK, NAMES, PAIR, STATE_SETS, STEPS

LETTERS = "abcdefghijklmnopqrstuvwxyz"


class KindsTest(unittest.TestCase):
    def check_all(self, function, right, wrong):
        for thing in right:
            self.assertIs(function(thing), True, thing)
        for thing in wrong:
            self.assertIs(function(thing), False, thing)

    def test_integers(self):
        self.check_all(is_integer, INTEGERS, JUNK + NAMES + COUNTS[len(INTEGERS):] + STEPS)

    def test_numbers(self):
        self.check_all(is_number, (0, 1, 2, BIG), (-1, -2, -BIG) + JUNK + NAMES + COUNTS[len(INTEGERS):])

    def test_true_is_not_one(self):
        for function in (is_integer, is_number):
            self.check_all(function, (1, 0), BOOLS)

    def test_names(self):
        self.check_all(is_name, NAMES + tuple(LETTERS) + (LETTERS[:8], LETTERS[18:]), JUNK + INTEGERS + STEPS)

    def test_names_at_their_lengths(self):
        self.check_all(is_name, ["a" * k for k in range(1, 9)], ["", "a" * 9, "a" * 10, "a" * 100])

    def test_names_with_one_sign_that_is_no_letter(self):
        others = [chr(k) for k in range(32, 127) if chr(k) not in LETTERS] + ["\n", "\t", "\u00e4", "\u0430"]
        self.check_all(is_name, (), others + ["a" + sign for sign in others])
        self.check_all(is_name, (), [sign + "z" for sign in others] + ["ab" + sign + "yz" for sign in others])

    def test_lists_of_letters_are_no_names(self):
        self.check_all(is_name, (), (["a"], ("a",), ["a", "b"], ("ab",)))

    def test_states_of_one_item(self):
        right = [(k,) for k in range(5)]
        wrong = [(-1,), (5,), (BIG,), (-BIG,), (), (0, 0), (0, 1, 2), [0], 0, (True,), (False,), ("0",), ((0,),), (None,)]
        self.check_all(lambda thing: is_state(ITEMS, thing), right, wrong)
        self.check_all(lambda thing: is_state(ITEMS, thing), (), JUNK + NAMES + INTEGERS + STEPS)

    def test_states_of_several_items(self):
        right = [(-2, 0), (0, 0), (2, 0)]
        wrong = [(-3, 0), (3, 0), (0, 1), (0, -1), (0,), (0, 0, 0), [0, 0], (0, [0]), ((0, 0),), (0, False), (True, 0)]
        self.check_all(lambda thing: is_state(PAIR, thing), right, wrong)
        self.check_all(lambda thing: is_state(PAIR, thing), (), JUNK + NAMES + INTEGERS)

    def test_states_of_great_items(self):
        items = (("a", -BIG, BIG), ("b", BIG, BIG))
        right = [(-BIG, BIG), (BIG, BIG), (0, BIG)]
        wrong = [(-BIG - 1, BIG), (BIG + 1, BIG), (0, BIG - 1), (BIG,), (True, BIG)]
        self.check_all(lambda thing: is_state(items, thing), right, wrong)

    def test_tuples_of_integers(self):
        self.check_all(is_integer_tuple, ((), (0,), (1, -1), INTEGERS), ((True,), [0], (0, None), "", None, ("a",), ((),)))

    def test_sets_of_tuples(self):
        self.check_all(is_state_set, STATE_SETS, BAD_STATE_SETS)

    def test_names_of_arguments(self):
        self.assertIs(is_integer(thing=1), True)
        self.assertIs(is_number(thing=-1), False)
        self.assertIs(is_name(thing="a"), True)
        self.assertIs(is_state(thing=(0,), items=ITEMS), True)

    def test_arguments_stay_as_they_are(self):
        thing = [1, [2, (3, [4])]]
        for function in (is_integer, is_number, is_name, is_integer_tuple, is_state_set):
            function(thing)
            is_state(ITEMS, thing)
            self.assertEqual(repr(thing), "[1, [2, (3, [4])]]")

    def test_bad_names_are_names_nowhere(self):
        for name in BAD_NAMES:
            self.assertIs(is_name(name), False)


if __name__ == "__main__":
    unittest.main()
