"""[9], [19], [20]: expressions, steps, keys and programs that are read from text."""

import unittest

from firstfault.conditions import is_condition, is_count
from firstfault.errors import FaultError, InvalidText, TextError
from firstfault.keys import is_key
from firstfault.programreadings import expression_read, key_read, program_read, step_read
from firstfault.programtexts import expression_text, key_text, program_text, step_text
from firstfault.steps import is_step
from makers import within_repeats
from samples import nested
from writings import (
    CONDITION_TEXTS, COUNT_TEXTS, ITEM_LINE, KEY_TEXTS, NINES, NO_INTEGERS, NO_KEYS, NO_NAMES, NO_NUMBERS, NO_STATES,
    PROGRAM_TEXTS, STEP_TEXTS,
)

# What may follow a whole text and is one word too many.
MORE = (" ", " 1", "  ", " x", " \n", " -", " say 1", " item a")
NO_WORDS = ("", "x", "\n", "=1", "=\n", "IN", "items", "say", "main", "part", "check", "true", ".", "==", "-a")


class ReadingTest(unittest.TestCase):
    def check_values(self, function, rows):
        for text, thing in rows:
            self.assertEqual(repr(function(text)), repr(thing), text)
            self.assertEqual(repr(function(text, line=5)), repr(thing))

    def check_wrong(self, function, text, field, line=0):
        """The text is not possible, in this line from this word on; what is passed is added."""
        for given in ({}, {"line": 0}, {"line": 7}, {"line": 10 ** 50}):
            with self.assertRaises(InvalidText, msg=repr(text)) as caught:
                function(text, **given)
            found = caught.exception
            self.assertEqual(repr((found.line, found.field)), repr((line + given.get("line", 0), field)), repr(text))
            self.assertIs(found.__class__, InvalidText)
            self.assertTrue(isinstance(found, TextError) and isinstance(found, FaultError))

    def check_field(self, function, text, field):
        self.check_wrong(function, text, field)
        with self.assertRaises(InvalidText) as caught:
            function(text, field=30, line=2)
        self.assertEqual((caught.exception.line, caught.exception.field), (2, 30 + field))

    def check_fields(self, function, rows):
        for text, field in rows:
            self.check_field(function, text, field)

    def check_whole(self, function, rows):
        """One word more is not possible behind any of these, nor an empty one ahead; none may be missing or empty."""
        for text, _ in rows:
            words = text.split(" ")
            for more in MORE:
                self.check_field(function, text + more, len(words))
            self.check_field(function, " " + text, 0)
            for k in range(len(words)):
                self.check_field(function, " ".join(words[:k]), k)
                self.check_field(function, " ".join(words[:k] + [""] + words[k:]), k)
                self.check_field(function, " ".join(words[:k] + [words[k] + "\n"] + words[k + 1:]), k)
                self.check_field(function, " ".join(words[:k] + ["\n" + words[k]] + words[k + 1:]), k)


class ExpressionTest(ReadingTest):
    def test_values(self):
        self.check_values(expression_read, COUNT_TEXTS + CONDITION_TEXTS)
        for text, thing in COUNT_TEXTS + CONDITION_TEXTS:
            self.assertEqual(is_count(thing) or is_condition(thing), True)
            self.assertEqual(expression_text(expression_read(text=text, line=1, field=1)), text)

    def test_words_missing_empty_or_too_many(self):
        self.check_whole(expression_read, COUNT_TEXTS + CONDITION_TEXTS)

    def test_first_words(self):
        self.check_fields(expression_read, [(text, 0) for text in NO_WORDS + NO_INTEGERS if text != "-"])
        self.check_fields(expression_read, [(text + " 1 2", 0) for text in NO_WORDS])
        self.check_fields(expression_read, [("-", 1), ("item", 1), ("in", 1), ("not", 1), ("and", 1), ("= 1", 2), ("+ - 1", 3)])

    def test_words_of_another_kind(self):
        for word in ("+", "-", "*", "=", "<"):
            for other in ("=", "<", "and", "or", "not", "in", "say", "", "\n"):
                self.check_fields(expression_read, [(f"{word} {other} 1 1", 1), (f"{word} 1 {other} 1", 2)])
                self.check_fields(expression_read, [(f"{word} + 1 1 {other}", 4), (f"{word} item a {other}", 3)])
        for word in ("and", "or", "not"):
            for other in ("1", "-1", "+", "-", "*", "item", "say", "", "01", "\n"):
                self.check_field(expression_read, f"{word} {other} 1 1", 1)
                if word != "not":
                    self.check_fields(expression_read, [(f"{word} in - {other}", 3), (f"{word} < 1 2 {other}", 4)])

    def test_names(self):
        for name in NO_NAMES:
            self.check_fields(expression_read, [(f"item {name}", 1), (f"+ item {name} 1", 2), (f"+ 1 item {name}", 3)])

    def test_integers(self):
        self.check_values(expression_read, [(f"+ 1 {NINES}", ("+", 1, int(NINES))), (f"- -{NINES} 0", ("-", -int(NINES), 0))])
        for word in NO_INTEGERS:
            if word != "-":
                self.check_fields(expression_read, [(f"+ {word} 1", 1), (f"= 1 {word}", 2), (f"not < 1 - {word}", 4)])

    def test_sets(self):
        for word in NO_STATES:
            self.check_fields(expression_read, [(f"in {word}", 1), (f"not in {word}", 2), (f"and in - in {word}", 4)])
            self.check_field(expression_read, f"or in {word} in -", 2)

    def test_within_thirty_others_and_within_more(self):
        whole, end = nested(("in", ()), lambda c: ("not", c), 30), "not " * 30
        self.check_values(expression_read, [(end + "in -", whole)])
        self.check_fields(expression_read, [
            (end + "not in -", 31), (end + "not", 31), (end + "not x", 31), (end + "= 1 1", 31), (end + "=", 31),
            ("not " * 60, 31),
            (end + "x", 30), (end + "in", 31), (end + "in x", 31), (end + "in - x", 32), (end, 30), (end.strip(), 30),
        ])
        for word in ("+", "-", "*"):
            left = nested(("item", "a"), lambda c: (word, c, 1), 30)
            self.check_values(expression_read, [(f"{word} " * 30 + "item a" + " 1" * 30, left)])
            right = nested(("item", "a"), lambda c: (word, 1, c), 30)
            self.check_values(expression_read, [(f"{word} 1 " * 30 + "item a", right)])
            self.check_fields(expression_read, [
                (f"{word} " * 31 + "item a" + " 1" * 31, 31), (f"{word} 1 " * 31 + "item a", 61),
                (f"{word} 1 " * 30 + word, 61),
                (f"= 1 {word} " + f"{word} 1 " * 29 + "1 1", 60),
            ])
        right = nested(("in", ((1,),)), lambda c: ("and", ("in", ()), c), 30)
        self.check_values(expression_read, [("and in - " * 30 + "in 1", right)])
        self.check_field(expression_read, "or in - " * 31 + "in 1", 91)


class StepTest(ReadingTest):
    def test_example(self):
        self.check_field(step_read, "repeat 2 1 say = 0 0", 4)

    def test_values(self):
        self.check_values(step_read, STEP_TEXTS)
        for text, thing in STEP_TEXTS:
            self.assertIs(is_step(thing), True)
            self.assertEqual(step_text(step_read(text=text, line=1, field=1)), text)

    def test_words_missing_empty_or_too_many(self):
        self.check_whole(step_read, STEP_TEXTS)

    def test_first_words(self):
        others = ("", "x", "1", "-", "=", "in", "item", "main", "part", "put", "Say", "say\n", "\nsay", "\n", "else", "steps", "0")
        for word in others:
            self.check_fields(step_read, [(word, 0), (f"{word} a 0 1", 0), (f"repeat 1 1 {word}", 3), (f"if in - 1 {word} 1 0", 4)])
            self.check_fields(step_read, [(f"if in - 0 1 {word}", 5), (f"repeat 1 2 say 1 {word} 1", 5)])

    def test_names(self):
        for name in NO_NAMES:
            for text in (f"check {name} in -", f"set {name} 1", f"call {name}"):
                self.check_field(step_read, text, 1)
                self.check_field(step_read, f"repeat 1 1 {text}", 4)

    def test_numbers_and_conditions(self):
        for word in ("=", "<", "and", "or", "not", "in", "say", "0" * 2, "-0", "x", ""):
            self.check_fields(step_read, [(f"say {word} 1 1", 1), (f"set a {word} 1 1", 2), (f"repeat {word} 1 1 0", 1)])
        for word in ("1", "item", "+", "-", "*", "say", "x", ""):
            self.check_fields(step_read, [(f"check a {word} 1 1", 2), (f"if {word} 1 1 0 0", 1)])

    def test_numbers_of_steps(self):
        for word in NO_NUMBERS:
            self.check_fields(step_read, [(f"repeat 1 {word}", 2), (f"repeat - 1 1 {word} say 1", 4), (f"if in - {word} 0", 3)])
            self.check_fields(step_read, [(f"if in - 0 {word}", 4), (f"if in - 1 say 1 {word}", 6)])
        self.check_fields(step_read, [
            ("repeat 1 2 say 1", 5), ("repeat 1 1 say 1 say 1", 5), ("repeat 1 0 say 1", 3),
            (f"repeat 1 {NINES} say 1", 5),
            (f"repeat 1 {NINES}", 3), ("if in - 2 say 1 0", 6), ("if in - 0 2 say 1", 7), ("if in - 1 say 1", 6),
            ("if in - 0", 4),
            (f"if in - 0 {NINES} say 1 x", 7),
        ])

    def test_within_thirty_others_and_within_more(self):
        call = ("call", "a")
        self.check_values(step_read, [("repeat 1 1 " * 30 + "call a", within_repeats(call, 30))])
        self.check_values(step_read, [("repeat 1 1 " * 29 + "say 1", within_repeats(("say", 1), 29))])
        self.check_values(step_read, [("repeat 1 1 " * 29 + "repeat 1 0", within_repeats(("repeat", 1, ()), 29))])
        first, second = "if in - 1 " * 30 + "call a" + " 0" * 30, "if in - 0 1 " * 30 + "call a"
        self.check_values(step_read, [(first, nested(call, lambda step: ("if", ("in", ()), (step,), ()), 30))])
        self.check_values(step_read, [(second, nested(call, lambda step: ("if", ("in", ()), (), (step,)), 30))])
        self.check_fields(step_read, [
            ("repeat 1 1 " * 31 + "call a", 91), ("repeat 1 1 " * 30 + "say 1", 91),
            ("repeat 1 1 " * 30 + "repeat 1 0", 91),
            ("repeat 1 1 " * 30 + "set a 1", 92), ("repeat 1 1 " * 30 + "check a in -", 92),
            ("repeat 1 1 " * 30 + "if in - 0 0", 91),
            ("repeat 1 1 " * 30 + "call", 91), ("repeat 1 1 " * 30 + "x", 90), ("repeat 1 1 " * 40, 91),
            ("if in - 1 " * 31, 121),
            ("if in - 0 1 " * 31, 151), ("repeat 1 1 " * 29 + "say + 1 1", 89),
            ("repeat 1 1 " * 29 + "check a not in -", 90),
        ])

    def test_steps_and_parts_are_counted_together(self):
        for many in (0, 1, 10, 29):
            front = "repeat 1 1 " * many
            number = "- 1 " * (29 - many)
            made = within_repeats(("say", nested(("item", "a"), lambda c: ("-", 1, c), 29 - many)), many)
            self.check_values(step_read, [(front + "say " + number + "item a", made)])
            self.check_field(step_read, front + "say " + number + "- 1 item a", 3 * many + 1 + 2 * (29 - many) + 1)
            condition = nested(("in", ()), lambda c: ("not", c), 29 - many)
            self.check_values(step_read, [(front + "if " + "not " * (29 - many) + "in - 0 0",
                                           within_repeats(("if", condition, (), ()), many))])
            self.check_field(step_read, front + "if " + "not " * (30 - many) + "in - 0 0", 3 * many + 1 + 30 - many)


class KeyTest(ReadingTest):
    def test_values(self):
        self.check_values(key_read, KEY_TEXTS)
        for text, key in KEY_TEXTS:
            self.assertIs(is_key(key), True)
            self.assertEqual(key_text(key_read(text=text, line=1, field=1)), text)

    def test_words_missing_empty_or_too_many(self):
        self.check_whole(key_read, KEY_TEXTS)
        self.check_fields(key_read, [("-:0 -:0", 1), ("-:0 x", 1)])

    def test_words_that_are_no_keys(self):
        self.check_fields(key_read, [(word, 0) for word in NO_KEYS])
        self.check_fields(key_read, [(word + " -:0", 0) for word in NO_KEYS])

    def test_names_and_numbers(self):
        for name in NO_NAMES:
            self.check_fields(key_read, [] if name == "-" else [(f"{name}:0", 0)])
        for word in [word for word in NO_NUMBERS if "." not in word]:
            self.check_fields(key_read, [(f"-:{word}", 0), (f"a:{word}.0", 0), (f"-:0.{word}", 0), (f"-:0.{word}.0", 0)])
        self.check_values(key_read, [(f"a:{NINES}.{NINES}", ("a", (int(NINES), int(NINES))))])


class ProgramTest(ReadingTest):
    def check_lines(self, rows):
        for text, line, field in rows:
            self.check_wrong(program_read, text, field, line)

    def test_values(self):
        self.check_values(program_read, PROGRAM_TEXTS)
        for text, _ in PROGRAM_TEXTS:
            self.assertEqual(program_text(program_read(text=text, line=1)), text)

    def test_one_line_more_or_less(self):
        for text, _ in PROGRAM_TEXTS:
            lines = text.split("\n")
            main = max([k for k, line in enumerate(lines) if line == "main"])
            for k in range(main + 1):
                self.check_lines([("\n".join(lines[:k]), k, 0)])
            for k in range(len(lines) + 1):
                self.check_lines([("\n".join(lines[:k] + [""] + lines[k:]), k, 0)])
            for more in ("main", "part a", "item a 0 1", "x", "", "lean"):
                self.check_lines([(text + "\n" + more, len(lines), 0), (text + "\n" + more + "\nsay 1", len(lines), 0)])
            self.check_lines([("\n" + text, 0, 0), (text + "\n\n", len(lines), 0)])

    def test_one_word_too_many_missing_or_empty(self):
        for text, _ in PROGRAM_TEXTS:
            lines = text.split("\n")
            for k, line in enumerate(lines):
                words = line.split(" ")
                for more in (" ", " 1", " x"):
                    self.check_lines([("\n".join(lines[:k] + [line + more] + lines[k + 1:]), k, len(words))])
                for j in range(len(words)):
                    self.check_lines([("\n".join(lines[:k] + [" ".join(words[:j])] + lines[k + 1:]), k, j)])
                    self.check_lines([("\n".join(lines[:k] + [" ".join(words[:j] + [""] + words[j:])] + lines[k + 1:]), k, j)])

    def test_the_first_line_is_an_item(self):
        others = ("", "main", "part a", "say 1", "\n", "x", " ", f" {ITEM_LINE}", "items", "main\nmain")
        self.check_lines([(text, 0, 0) for text in others])
        self.check_lines([("item", 0, 1), ("item a", 0, 2), ("item a 0", 0, 3), ("item a 0 1", 1, 0), ("item a 0 1 2", 0, 4)])

    def test_items(self):
        for name in NO_NAMES:
            if "\n" not in name:
                self.check_lines([(f"item {name} 0 1\nmain", 0, 1), (f"{ITEM_LINE}\nitem {name} 0 1\nmain", 1, 1)])
        for word in NO_INTEGERS:
            if "\n" not in word:
                self.check_lines([(f"item a {word} 1\nmain", 0, 2), (f"{ITEM_LINE}\nitem a 0 {word}\nmain", 1, 3)])

    def test_lines_in_their_order(self):
        self.check_lines([
            (f"{ITEM_LINE}\nsay 1\nmain", 1, 0), (f"{ITEM_LINE}\ncheck", 1, 0), (f"{ITEM_LINE}\nx", 1, 0),
            (f"{ITEM_LINE}\n", 1, 0),
            (f"{ITEM_LINE}\npart a\nitem b 0 1\nmain", 2, 0), (f"{ITEM_LINE}\npart a\nsay 1\nitem b 0 1\nmain", 3, 0),
            (f"{ITEM_LINE}\nmain\nitem b 0 1", 2, 0), (f"{ITEM_LINE}\nmain\npart a", 2, 0),
            (f"{ITEM_LINE}\nmain\nmain", 2, 0),
            (f"{ITEM_LINE}\nmain\nsay 1\nmain", 3, 0), (f"{ITEM_LINE}\npart a\nsay 1\npart b", 4, 0),
            (f"{ITEM_LINE}\nmain\n", 2, 0),
            (f"{ITEM_LINE}\nmain ", 1, 1), (f"{ITEM_LINE}\nmain a", 1, 1), (f"{ITEM_LINE}\npart", 1, 1),
            (f"{ITEM_LINE}\npart a b", 1, 2),
            (f"{ITEM_LINE}\nMain", 1, 0), (f"{ITEM_LINE}\nmain\nsay", 2, 1),
            (f"{ITEM_LINE}\npart a\nsay in\nmain\nsay", 2, 1),
        ])
        for name in NO_NAMES:
            if "\n" not in name:
                self.check_lines([(f"{ITEM_LINE}\npart {name}\nmain", 1, 1)])

    def test_the_first_line_of_several(self):
        self.check_lines([
            (f"{ITEM_LINE}\nmain\nsay x\nsay", 2, 1), ("item a 0 x\nx", 0, 3),
            (f"{ITEM_LINE}\npart a\nrepeat 1 1 call A", 2, 4),
            (f"{ITEM_LINE}\npart a\nsay 1", 3, 0),
        ])

    def test_a_step_for_each_line(self):
        for text, step in STEP_TEXTS:
            made = ((("coins", 0, 4),), (("a", (step,)),), (step, step))
            self.check_values(program_read, [(f"{ITEM_LINE}\npart a\n{text}\nmain\n{text}\n{text}", made)])
            self.check_lines([(f"{ITEM_LINE}\nmain\n{text} {text}", 2, len(text.split(" ")))])

    def test_within_thirty_others_and_within_more(self):
        front = f"{ITEM_LINE}\npart a\n" + "repeat 1 1 " * 30
        made = ((("coins", 0, 4),), (("a", (within_repeats(("call", "a"), 30),)),), ())
        self.check_values(program_read, [(front + "call a\nmain", made)])
        self.check_lines([(front + "repeat 1 1 call a\nmain", 2, 91), (front + "say 1\nmain", 2, 91)])


class ArgumentsTest(unittest.TestCase):
    def test_line_and_field_are_passed_by_name_alone(self):
        for function in (expression_read, step_read, key_read, program_read):
            with self.assertRaises(TypeError):
                function("1", 0)
        with self.assertRaises(TypeError):
            program_read("1", field=0)

    def test_no_call_hangs_on_an_earlier_one(self):
        for text, thing in STEP_TEXTS + STEP_TEXTS[::-1]:
            with self.assertRaises(InvalidText):
                step_read(text + " 1")
            self.assertEqual(step_read(text), thing)


if __name__ == "__main__":
    unittest.main()
