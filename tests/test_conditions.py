"""[3], [4], [10], [11]: numbers and conditions by form and for items, their parts and paths."""

import unittest

from firstfault.conditions import is_condition, is_count, lets_condition, lets_count, parts_of
from firstfault.errors import FaultError, ProgramError, UnfitPart
from samples import (
    BAD_NAMES, BAD_STATE_SETS, BIG, BOOLS, CONDITIONS, COUNTS, INTEGERS, ITEMS, JUNK, NAMES, PAIR, STATE_SETS, STEPS,
    nested, with_each_changed, with_wrong_length,
)

NUMBERS_IN = ("+", "-", "*", "=", "<")
CONDITIONS_IN = ("and", "or")
NOWHERE = ("item", "nowhere")


class FormTest(unittest.TestCase):
    def check_all(self, function, right, wrong):
        for thing in right:
            self.assertIs(function(thing), True, thing)
        for thing in wrong:
            self.assertIs(function(thing), False, thing)

    def test_numbers(self):
        self.check_all(is_count, COUNTS, CONDITIONS + STEPS + JUNK + NAMES)

    def test_conditions(self):
        self.check_all(is_condition, CONDITIONS, COUNTS + STEPS + JUNK + NAMES)

    def test_true_is_no_number(self):
        wrong = BOOLS + (("+", True, 1), ("+", 1, False), ("*", 0, ("-", 1, True)))
        self.check_all(is_count, (), wrong)
        self.check_all(is_condition, (), [("=", True, 1), ("<", 0, False), ("not", True), ("and", True, ("in", ()))])

    def test_items(self):
        self.check_all(is_count, [("item", name) for name in NAMES], [("item", name) for name in BAD_NAMES])
        self.check_all(is_count, (), [("item", thing) for thing in (None, 1, True, (), ("a",), ["a"])])
        self.check_all(is_count, (), with_wrong_length(("item", "a")) + [("item", "a", "b"), ("items", "a")])

    def test_sets_behind_in(self):
        self.check_all(is_condition, [("in", rows) for rows in STATE_SETS], [("in", rows) for rows in BAD_STATE_SETS])
        self.check_all(is_condition, (), with_wrong_length(("in", ())) + [("in", (), ()), ("on", ())])

    def test_thirty_six_states(self):
        rows = STATE_SETS[-1]
        self.assertEqual(len(rows), 36)
        self.check_all(is_condition, [("in", rows)], [("in", rows + rows[-1:]), ("in", rows[1:] + rows[:1])])

    def test_each_element_of_a_word_with_numbers(self):
        for word in NUMBERS_IN:
            is_it = is_count if word in ("+", "-", "*") else is_condition
            for thing in ((word, 1, 2), (word, COUNTS[-1], COUNTS[-2])):
                self.check_all(is_it, [thing], with_wrong_length(thing))
                for k in (1, 2):
                    self.check_all(is_it, with_each_changed(thing, k, COUNTS), ())
                    self.check_all(is_it, (), with_each_changed(thing, k, JUNK + CONDITIONS + STEPS + NAMES))
                self.check_all(is_it, (), with_each_changed(thing, 0, JUNK + INTEGERS + ("item", "in", "not", "and", "or")))
                self.check_all(is_condition if is_it is is_count else is_count, (), [thing])

    def test_each_element_of_a_word_with_conditions(self):
        for word in CONDITIONS_IN + ("not",):
            thing = (word, ("in", ()), ("=", 1, 1)) if word != "not" else (word, ("in", ()))
            self.check_all(is_condition, [thing], with_wrong_length(thing))
            self.check_all(is_count, (), [thing])
            for k in range(1, len(thing)):
                self.check_all(is_condition, with_each_changed(thing, k, CONDITIONS), ())
                self.check_all(is_condition, (), with_each_changed(thing, k, JUNK + COUNTS + STEPS + NAMES))
            self.check_all(is_condition, (), with_each_changed(thing, 0, JUNK + INTEGERS + NUMBERS_IN + ("item", "in")))

    def test_nested_deep(self):
        for many in (5, 39):
            for wrap in (lambda c: ("+", c, 1), lambda c: ("-", 1, c), lambda c: ("*", c, 0)):
                self.check_all(is_count, [nested(1, wrap, many)], [nested(thing, wrap, many) for thing in JUNK])
            for wrap in (lambda c: ("not", c), lambda c: ("and", c, ("in", ())), lambda c: ("or", ("in", ()), c)):
                self.check_all(is_condition, [nested(("in", ()), wrap, many)], [nested(x, wrap, many) for x in JUNK])

    def test_returned_as_true_or_false_by_name_of_argument(self):
        self.assertIs(is_count(thing=3), True)
        self.assertIs(is_condition(thing=()), False)

    def test_arguments_stay_as_they_are(self):
        for thing in (["+", 1, [2]], ("+", [1], [("a", [2])]), [["in", [(0,)]]]):
            told = repr(thing)
            self.assertEqual([is_count(thing), is_condition(thing), repr(thing)], [False, False, told])


class PartsTest(unittest.TestCase):
    def test_example(self):
        thing = ("=", ("item", "coins"), 1)
        self.assertEqual(parts_of(thing), (((), thing), ((1,), ("item", "coins")), ((2,), 1)))
        self.assertEqual(parts_of(expression=thing), parts_of(thing))

    def test_parts_without_parts(self):
        for thing in INTEGERS + (("item", "a"),) + tuple([("in", rows) for rows in STATE_SETS]):
            self.assertEqual(parts_of(thing), (((), thing),))

    def test_a_part_stands_ahead_of_the_parts_in_it(self):
        times = ("*", ("+", 1, ("item", "a")), -2)
        less = ("<", 3, times)
        rows = ("in", ((0,), (1,)))
        thing = ("and", ("not", ("or", less, rows)), ("=", 0, 4))
        self.assertEqual(parts_of(thing), (
            ((), thing), ((1,), thing[1]), ((1, 1), thing[1][1]), ((1, 1, 1), less), ((1, 1, 1, 1), 3),
            ((1, 1, 1, 2), times), ((1, 1, 1, 2, 1), times[1]), ((1, 1, 1, 2, 1, 1), 1),
            ((1, 1, 1, 2, 1, 2), ("item", "a")), ((1, 1, 1, 2, 2), -2), ((1, 1, 2), rows),
            ((2,), thing[2]), ((2, 1), 0), ((2, 2), 4),
        ))

    def test_the_path_leads_to_the_part(self):
        for thing in COUNTS + CONDITIONS:
            for path, part in parts_of(thing):
                found = thing
                for k in path:
                    found = found[k]
                self.assertIs(found, part)

    def test_tuples_of_tuples_are_returned(self):
        found = parts_of(("+", 1, 2))
        self.assertEqual([found.__class__, {row.__class__ for row in found}], [tuple, {tuple}])

    def test_deep_and_large(self):
        thing = nested(0, lambda c: ("+", 1, c), 300)
        found = parts_of(thing)
        self.assertEqual([len(found), found[-1]], [601, ((2,) * 300, 0)])


class ItemsTest(unittest.TestCase):
    def check_path(self, function, items, thing, path):
        with self.assertRaises(UnfitPart) as caught:
            function(items, thing)
        self.assertEqual(repr(caught.exception.path), repr(path), thing)
        self.assertTrue(isinstance(caught.exception, ProgramError) and isinstance(caught.exception, FaultError))

    def check_many(self, function, items, thing, many):
        self.assertEqual(repr(function(items, thing)), repr(many), thing)

    def test_how_many_parts(self):
        for many, thing in ((1, 0), (1, BIG), (1, ("item", "a")), (3, ("+", 1, 1)), (5, ("*", ("-", 1, ("item", "b")), 2))):
            self.check_many(lets_count, PAIR, thing, many)
            self.check_path(lets_condition, PAIR, thing, ())
        rows = ("in", ((-2, 0), (0, 0), (2, 0)))
        more = ((1, rows), (1, ("in", ())), (3, ("=", 1, 2)), (2, ("not", rows)), (5, ("or", rows, ("<", 1, ("item", "a")))))
        for many, thing in more:
            self.check_many(lets_condition, PAIR, thing, many)
            self.check_path(lets_count, PAIR, thing, ())

    def test_the_number_is_that_of_the_parts(self):
        items = (("a", -1, 1), ("z", 0, 0))
        for thing in (("*", ("item", "z"), ("+", 0, ("-", 1, 1))), ("-", -1, BIG)):
            self.check_many(lets_count, items, thing, len(parts_of(thing)))

    def test_any_other_value(self):
        for thing in JUNK + STEPS + NAMES:
            self.check_path(lets_count, ITEMS, thing, ())
            self.check_path(lets_condition, ITEMS, thing, ())

    def test_items_that_are_not_there(self):
        self.check_many(lets_count, ITEMS, ("item", "coins"), 1)
        for name in ("coin", "coinss", "a", "item"):
            self.check_path(lets_count, ITEMS, ("item", name), ())
            self.check_path(lets_condition, ITEMS, ("=", 1, ("+", ("item", "coins"), ("item", name))), (2, 2))
        self.check_path(lets_count, ITEMS, ("item", "b"), ())
        self.check_many(lets_count, PAIR, ("item", "b"), 1)

    def test_states_behind_in(self):
        self.check_many(lets_condition, ITEMS, ("in", ((0,), (4,))), 1)
        for rows in (((5,),), ((-1,), (0,)), ((0,), (0, 0)), ((0,), (4,), (5,)), ((0, 0),)):
            self.assertIs(is_condition(("in", rows)), True)
            self.check_path(lets_condition, ITEMS, ("in", rows), ())
            self.check_path(lets_condition, ITEMS, ("not", ("and", ("in", ()), ("in", rows))), (1, 2))
        for rows in BAD_STATE_SETS:
            self.check_path(lets_condition, ITEMS, ("or", ("in", rows), ("in", ())), (1,))
        self.check_many(lets_condition, (("a", 0, 5), ("b", 0, 5)), ("in", STATE_SETS[-1]), 1)
        self.check_path(lets_condition, (("a", 0, 5), ("b", 0, 4)), ("in", STATE_SETS[-1]), ())

    def test_the_first_wrong_part_of_several(self):
        good, bad = ("item", "coins"), ("item", "b")
        self.check_path(lets_count, ITEMS, ("+", bad, True), (1,))
        self.check_path(lets_count, ITEMS, ("+", True, bad), (1,))
        self.check_path(lets_count, ITEMS, ("+", ("-", good, bad), ("no", 1)), (1, 2))
        self.check_path(lets_count, ITEMS, ("+", ("-", good, 1), ("*", None, bad)), (2, 1))
        self.check_path(lets_condition, ITEMS, ("and", ("not", ("in", ((9,),))), ("in", ((1,), (0,)))), (1, 1))
        self.check_path(lets_condition, ITEMS, ("and", ("=", good, 1), ("<", [], bad)), (2, 1))
        self.check_path(lets_condition, ITEMS, ("or", 1, ("nor", 1)), (1,))
        self.check_path(lets_condition, ITEMS, ("or", ("in", ()), 1), (2,))

    def test_a_wrong_part_is_wrong_whatever_stands_in_it(self):
        self.check_path(lets_count, ITEMS, ("+", NOWHERE, 1, 1), ())
        self.check_path(lets_count, ITEMS, ("+", ("*", True), NOWHERE), (1,))
        self.check_path(lets_count, ITEMS, ("+", ("=", True, None), NOWHERE), (1,))
        self.check_path(lets_condition, ITEMS, ("not", ("+", True, None)), (1,))
        self.check_path(lets_condition, ITEMS, ("=", ("<", True, None), None), (1,))

    def test_a_right_part_is_right_whatever_stands_in_it(self):
        self.check_path(lets_count, ITEMS, ("+", None, None), (1,))
        self.check_path(lets_condition, ITEMS, ("not", ("and", None, None)), (1, 1))
        self.check_path(lets_condition, ITEMS, ("not", [("in", ())]), (1,))

    def test_true_is_no_number(self):
        for thing in BOOLS:
            self.check_path(lets_count, ITEMS, thing, ())
            self.check_path(lets_count, ITEMS, ("*", 1, thing), (2,))
            self.check_path(lets_condition, ITEMS, ("in", ((thing,),)), ())
            self.check_path(lets_condition, ITEMS, ("in", ((0,), (thing, 1))), ())

    def test_deep(self):
        many = 39
        self.check_many(lets_count, ITEMS, nested(1, lambda c: ("+", c, 1), many), 79)
        self.check_path(lets_count, ITEMS, nested(True, lambda c: ("+", 1, c), many), (2,) * many)
        self.check_many(lets_condition, ITEMS, nested(("in", ()), lambda c: ("not", c), many), 40)
        self.check_path(lets_condition, ITEMS, nested(("in", ((5,),)), lambda c: ("or", ("in", ()), c), many), (2,) * many)

    def test_names_of_arguments(self):
        self.assertEqual(lets_count(thing=("+", 1, 1), items=ITEMS), 3)
        self.assertEqual(lets_condition(thing=("in", ()), items=ITEMS), 1)

    def test_arguments_stay_as_they_are(self):
        thing = ("+", ["a", [1]], [0])
        told = repr(thing)
        self.check_path(lets_count, ITEMS, thing, (1,))
        self.assertEqual([repr(thing), repr(ITEMS)], [told, "(('coins', 0, 4),)"])


if __name__ == "__main__":
    unittest.main()
