"""[18]: expressions, steps, keys and programs as text."""

import unittest

from firstfault.programreadings import expression_read, key_read, program_read, step_read
from firstfault.programtexts import expression_text, key_text, program_text, step_text
from makers import made_programs, within_repeats
from samples import BIG, CONDITIONS, COUNTS, FULL, ITEMS, LESS, NESTED, NESTED_KEYS, NONE, STEPS, TILL, nested
from writings import CONDITION_TEXTS, COUNT_TEXTS, KEY_TEXTS, PROGRAM_TEXTS, STATES_TEXTS, STEP_TEXTS


class TextsTest(unittest.TestCase):
    def check_texts(self, function, rows):
        for text, thing in rows:
            self.assertEqual(function(thing), text)
            self.assertIs(function(thing).__class__, str)

    def test_example(self):
        program = (ITEMS, (("a", ()),), (FULL,))
        found = [step_text(("if", NONE[2], (LESS,), ())), key_text((None, (1, 0, 1))), program_text(program)]
        self.assertEqual(found, [
            "if < 0 item coins 1 set coins - item coins 1 0", "-:1.0.1",
            "item coins 0 4\npart a\nmain\ncheck full < item coins 4",
        ])

    def test_numbers(self):
        self.check_texts(expression_text, COUNT_TEXTS)

    def test_conditions(self):
        self.check_texts(expression_text, CONDITION_TEXTS)

    def test_sets(self):
        self.check_texts(expression_text, [(f"not in {word}", ("not", ("in", states))) for word, states in STATES_TEXTS])
        self.check_texts(expression_text, [("in " + ";".join([f"{a},{b}" for a in range(6) for b in range(6)]), CONDITIONS[5])])

    def test_integers_of_more_digits_than_can_be_read(self):
        self.check_texts(expression_text, [("1" + "0" * 90, 10 ** 90), ("+ -1" + "0" * 90 + " 1", ("+", -10 ** 90, 1))])
        self.check_texts(key_text, [("-:1" + "0" * 90, (None, (10 ** 90,)))])

    def test_deep(self):
        self.check_texts(expression_text, [("not " * 200 + "in -", nested(("in", ()), lambda c: ("not", c), 200))])
        self.check_texts(step_text, [("repeat 1 1 " * 60 + "say 1", within_repeats(("say", 1), 60))])

    def test_steps(self):
        self.check_texts(step_text, STEP_TEXTS)

    def test_keys(self):
        self.check_texts(key_text, KEY_TEXTS)

    def test_programs(self):
        self.check_texts(program_text, PROGRAM_TEXTS)
        till = (
            "item coins 0 4\nmain\ncheck full < item coins 4\nrepeat 2 2 check none < 0 item coins set coins - item coins 1\n"
            "say item coins"
        )
        self.check_texts(program_text, [(till, TILL)])
        nines = "9" * 60
        due = (
            "item a -2 2", "item b 0 0", "part zed", "part one",
            f"if in -2,0;1,0 2 say * item a -1 set b {nines} 1 repeat item b 1 say * item a -1", "call zed", "main",
            "if not = 1 item a 0 2 call one check x < 0 1",
            f"repeat -{nines} 2 if and < 0 1 = 0 0 1 say * item a -1 1 set a 0 say * item a -1", "call zed",
        )
        self.check_texts(program_text, [("\n".join(due), NESTED)])

    def test_what_was_written_is_read_as_the_same_value(self):
        for thing in COUNTS + CONDITIONS:
            self.assertEqual(repr(expression_read(expression_text(thing))), repr(thing))
        for thing in STEPS:
            self.assertEqual(repr(step_read(step_text(thing))), repr(thing))
        for thing in NESTED_KEYS:
            self.assertEqual(repr(key_read(key_text(thing))), repr(thing))
        for thing in [TILL, NESTED] + made_programs(300, seed=2):
            self.assertEqual(repr(program_read(program_text(thing))), repr(thing))
            for step in thing[2]:
                self.assertEqual(repr(step_read(step_text(step))), repr(step))

    def test_words_have_single_spaces_between(self):
        for program in made_programs(100, seed=3):
            for line in program_text(program).split("\n"):
                self.assertNotIn("", line.split(" "))

    def test_names_of_arguments(self):
        self.assertEqual([expression_text(expression=BIG), step_text(step=("say", 1))], ["9" * 60, "say 1"])
        self.assertEqual([key_text(key=("a", (1,))), program_text(program=(ITEMS, (), ()))], ["a:1", "item coins 0 4\nmain"])

    def test_arguments_stay_as_they_are(self):
        told = repr(NESTED)
        self.assertEqual([program_text(NESTED), repr(NESTED)], [program_text(NESTED), told])


if __name__ == "__main__":
    unittest.main()
