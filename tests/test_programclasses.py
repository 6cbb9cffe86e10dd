"""[2], [9], [17]: programs as objects."""

import inspect
import unittest

from firstfault.changes import with_step, with_step_ahead, without_step
from firstfault.errors import FaultError, InvalidPaper, InvalidText, PaperError, TextError, UnknownKey
from firstfault.keys import all_keys, step_at
from firstfault.programchecker import lets_program
from firstfault.programclasses import Program
from firstfault.programtexts import program_text
from makers import made_programs
from samples import (
    BAD_TUPLES_OF_STEPS, BIG, BOOLS, CALLS, FULL, INTEGERS, ITEMS, JUNK, LESS, NAMES, NESTED, NESTED_KEYS, NONE,
    NO_PLACES, PAIR,
    PLACES, SAY, STEPS, TILL,
)

NEW = ("check", "new", ("in", ((0, 0),)))
GONE = ("item", "gone")


class Anything:
    """An object that says it is equal to all others."""

    def __eq__(self, other):
        return True

    __hash__ = None


def made(form):
    """The Program with this form."""
    items, calls, steps = form
    return Program(items, steps, calls)


class ProgramCase(unittest.TestCase):
    def check_paper(self, word, at, function, *given):
        with self.assertRaises(InvalidPaper) as caught:
            function(*given)
        self.assertEqual(repr((caught.exception.word, caught.exception.at)), repr((word, at)), given)
        self.assertTrue(isinstance(caught.exception, PaperError) and isinstance(caught.exception, FaultError))

    def check_unknown(self, key, function, *given):
        with self.assertRaises(UnknownKey) as caught:
            function(*given)
        self.assertIs(caught.exception.key, key)


class MakingTest(ProgramCase):
    def test_example(self):
        program = Program(ITEMS, TILL[2])
        found = [len(program), (None, (1, 0, 2)) in program, program.less((None, (1,))).step_rows[-1] == program[(None, (2,))]]
        self.assertEqual(found, [5, False, True])

    def test_with_and_without_calls_by_position_and_by_name(self):
        till = Program(ITEMS, TILL[2])
        for other in (Program(ITEMS, TILL[2], ()), Program(steps=TILL[2], items=ITEMS), Program(ITEMS, calls=(), steps=TILL[2])):
            self.assertEqual([other == till, other.form], [True, TILL])
        nested = Program(PAIR, NESTED[2], CALLS)
        for other in (Program(calls=CALLS, steps=NESTED[2], items=PAIR), Program(PAIR, NESTED[2], calls=CALLS)):
            self.assertEqual([other == nested, other.form], [True, NESTED])

    def test_properties(self):
        for form in (TILL, NESTED, (ITEMS, (("a", ()),), ())):
            program = made(form)
            self.assertEqual(repr((program.item_rows, program.call_rows, program.step_rows)), repr(form))
            self.assertEqual(repr(program.form), repr(form))

    def test_any_other_value(self):
        for thing in JUNK + INTEGERS + STEPS + NAMES + (Anything(), made(TILL), {}, object()):
            if thing != ():
                self.check_paper("shape", -1, Program, thing, ())
                self.check_paper("shape", -1, Program, ITEMS, thing)
                self.check_paper("shape", -1, Program, ITEMS, (), thing)
        for steps in BAD_TUPLES_OF_STEPS:
            self.check_paper("shape", -1, Program, ITEMS, steps)
            self.check_paper("shape", -1, Program, ITEMS, (), (("a", steps),))

    def test_each_error_of_the_checker(self):
        self.check_paper("items", -1, Program, (), ())
        self.check_paper("item", 1, Program, (("b", 0, 0), ("a", 0, 0)), ())
        self.check_paper("item", 0, Program, (("b", 1, 0),), ())
        self.check_paper("call", 1, Program, ITEMS, (), (("a", ()), ("a", ())))
        self.check_paper("name", (None, (0,)), Program, ITEMS, (("call", "a"),))
        self.check_paper("name", ("a", (1,)), Program, ITEMS, (), (("a", (FULL, ("call", "b"))), ("b", ())))
        self.check_paper("name", (None, (0, 0, 0)), Program, ITEMS, (("repeat", 1, (("set", "gone", 1),)),))
        self.check_paper("part", (None, (1,)), Program, ITEMS, (FULL, ("say", GONE)))
        self.check_paper("part", ("a", (0,)), Program, ITEMS, (("set", "gone", 1),), (("a", (("say", GONE),)),))

    def test_the_first_of_several_errors(self):
        twice = (("a", (("say", GONE),)), ("a", ()))
        self.check_paper("shape", -1, Program, (), [], twice)
        self.check_paper("items", -1, Program, (), (("set", "gone", 1),), twice)
        self.check_paper("call", 1, Program, ITEMS, (("set", "gone", 1),), twice)

    def test_a_program_never_changes(self):
        program = made(TILL)
        for name in ("form", "item_rows", "call_rows", "step_rows"):
            with self.assertRaises(AttributeError):
                setattr(program, name, ())
        with self.assertRaises(TypeError):
            program[(None, (0,))] = LESS
        with self.assertRaises(TypeError):
            del program[(None, (0,))]
        program.turned((None, (0,)), LESS)
        program.less((None, (1,)))
        program.ahead((None, (3,)), FULL)
        self.check_paper("shape", -1, program.turned, (None, (0,)), 1)
        self.assertEqual([program.form, len(program), str(program)], [TILL, 5, program_text(TILL)])


class AskingTest(ProgramCase):
    def test_steps_by_their_keys(self):
        for form in (TILL, NESTED):
            program = made(form)
            for key in all_keys(form):
                self.assertIs(program[key], step_at(form, key))
                self.assertIs(key in program, True)

    def test_other_values_as_keys(self):
        program = made(NESTED)
        for key in NO_PLACES + PLACES + JUNK + INTEGERS + NAMES + STEPS + BOOLS + (Anything(), {}, program, slice(1), 1.5, "a"):
            self.check_unknown(key, program.__getitem__, key)
            self.assertIs(key in program, False)
        with self.assertRaises(UnknownKey):
            program[0]
        with self.assertRaises(UnknownKey):
            program[:1]

    def test_how_many_keys(self):
        self.assertEqual([len(made(form)) for form in (TILL, NESTED, (ITEMS, (), ()))], [5, 15, 0])
        for form in made_programs(50, seed=5):
            self.assertEqual(len(made(form)), lets_program(form))

    def test_iterating(self):
        for form in [TILL, NESTED, (ITEMS, (("a", ()),), ())] + made_programs(50, seed=6):
            program = made(form)
            self.assertEqual(repr(tuple(program)), repr(all_keys(form)))
            self.assertEqual([key for key in program], list(program))
            self.assertEqual(list(zip(program, program)), [(key, key) for key in all_keys(form)])
        self.assertEqual(list(made(NESTED)), list(NESTED_KEYS))

    def test_equal(self):
        program = made(TILL)
        self.assertIs(program == made(TILL), True)
        self.assertIs(program == program, True)
        self.assertIs(program != made(TILL), False)
        others = [
            made((ITEMS, (), TILL[2][:2])), made((ITEMS, (("a", ()),), TILL[2])),
            made(((("coins", 0, 5),), (), TILL[2])),
            made((ITEMS, (), ())), made(NESTED), made((ITEMS, (), (FULL, ("repeat", 3, (NONE, LESS)), TILL[2][2]))),
        ]
        others = others + [TILL, list(TILL), program_text(TILL), all_keys(TILL), Program, None, 0, 1, True, (), [], "", {}, object()]
        for other in others:
            self.assertIs(program == other, False)
            self.assertIs(other == program, False)
            self.assertIs(program != other, True)
        self.assertIs(program.__eq__(TILL), False)
        self.assertIs(program.__eq__(Anything()), False)

    def test_calls_in_another_order_are_not_equal(self):
        one, other = ("a", (FULL,)), ("b", ())
        self.assertIs(Program(ITEMS, (), (one, other)) == Program(ITEMS, (), (other, one)), False)

    def test_text(self):
        for form in [TILL, NESTED] + made_programs(50, seed=7):
            self.assertEqual(str(made(form)), program_text(form))
        self.assertEqual(str(Program(ITEMS, (FULL,), (("a", ()),))), "item coins 0 4\npart a\nmain\ncheck full < item coins 4")


class ChangingTest(ProgramCase):
    def check_program(self, program, form):
        self.assertIs(program.__class__, Program)
        self.assertEqual(repr(program.form), repr(form))
        self.assertEqual(list(program), list(all_keys(form)))

    def test_each_key(self):
        program = made(NESTED)
        for key in NESTED_KEYS:
            self.check_program(program.turned(key, NEW), with_step(NESTED, key, NEW))
            self.check_program(program.turned(step=NEW, key=key), with_step(NESTED, key, NEW))
            self.check_program(program.less(key), without_step(NESTED, key))
            self.check_program(program.less(key=key), without_step(NESTED, key))
        for place in NESTED_KEYS + PLACES:
            self.check_program(program.ahead(place, NEW), with_step_ahead(NESTED, place, NEW))
            self.check_program(program.ahead(step=NEW, place=place), with_step_ahead(NESTED, place, NEW))

    def test_one_behind_the_other(self):
        program = made(TILL).less((None, (1,))).ahead((None, (0,)), LESS).turned((None, (2,)), NONE)
        self.check_program(program, (ITEMS, (), (LESS, FULL, NONE)))
        self.assertIs(made(TILL).ahead((None, (3,)), LESS).less((None, (3,))) == made(TILL), True)

    def test_values_that_are_no_keys(self):
        program = made(NESTED)
        for key in NO_PLACES + JUNK + INTEGERS + (Anything(),):
            for step in (NEW, None, SAY):
                self.check_unknown(key, program.turned, key, step)
                self.check_unknown(key, program.ahead, key, step)
            self.check_unknown(key, program.less, key)
        for key in PLACES:
            self.check_unknown(key, program.turned, key, NEW)
            self.check_unknown(key, program.less, key)

    def test_steps_that_do_not_fit(self):
        program = made(NESTED)
        for key in NESTED_KEYS:
            for step in JUNK + INTEGERS + (Anything(), [NEW], (NEW,)):
                self.check_paper("shape", -1, program.turned, key, step)
                self.check_paper("shape", -1, program.ahead, key, step)
            self.check_paper("name", key, program.turned, key, ("set", "coins", BIG))
            self.check_paper("name", key, program.ahead, key, ("call", "two"))
            self.check_paper("part", key, program.turned, key, NONE)
            self.check_paper("part", key, program.ahead, key, ("say", GONE))


class ParsedTest(ProgramCase):
    def check_text(self, text, line, field):
        with self.assertRaises(InvalidText) as caught:
            Program.parsed(text)
        self.assertEqual((caught.exception.line, caught.exception.field), (line, field))
        self.assertTrue(isinstance(caught.exception, TextError) and isinstance(caught.exception, FaultError))

    def test_programs(self):
        for form in [TILL, NESTED] + made_programs(50, seed=8):
            program = Program.parsed(program_text(form))
            self.assertEqual([program.__class__, repr(program.form)], [Program, repr(form)])
            self.assertIs(Program.parsed(text=str(program)) == program, True)
            self.assertIs(program.parsed(str(program)) == program, True)

    def test_texts_that_cannot_be_read(self):
        self.check_text("", 0, 0)
        self.check_text("item a 0 1", 1, 0)
        self.check_text("item a 0 1\nmain\nsay x", 2, 1)
        self.check_text("item a 0 1\nmain\n", 2, 0)

    def test_texts_that_write_no_program(self):
        self.check_paper("item", 0, Program.parsed, "item a 1 0\nmain")
        self.check_paper("item", 1, Program.parsed, "item b 0 1\nitem a 0 1\nmain")
        self.check_paper("call", 1, Program.parsed, "item a 0 1\npart a\npart a\nmain")
        self.check_paper("name", (None, (0,)), Program.parsed, "item a 0 1\nmain\nset b 1")
        self.check_paper("name", ("a", (0,)), Program.parsed, "item a 0 1\npart a\ncall a\nmain")
        self.check_paper("part", (None, (1,)), Program.parsed, "item a 0 1\nmain\nsay 1\nsay item b")
        self.check_paper("part", (None, (0,)), Program.parsed, "item a 0 1\nmain\ncheck x in 0;2")

    def test_the_errors_of_reading_ahead_of_those_of_the_checker(self):
        self.check_text("item a 1 0\nmain\nsay", 2, 1)
        self.check_text("item b 0 1\nitem a 0 1", 2, 0)
        self.check_text("item a 0 1\nmain\nset b 1\ncall A", 3, 1)

    def test_a_class_method(self):
        self.assertTrue(inspect.ismethod(Program.parsed))


if __name__ == "__main__":
    unittest.main()
