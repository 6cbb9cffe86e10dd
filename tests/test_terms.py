"""[2], [9], [16]: numbers and conditions as objects."""

import inspect
import unittest

from faultcases import FaultCase
from firstfault.conditions import parts_of
from firstfault.errors import UnfitPart
from firstfault.programtexts import expression_text
from firstfault.terms import Count, Rule
from makers import Maker, all_states, value
from samples import (
    BAD_NAMES, BAD_STATE_SETS, BIG, BOOLS, COINS, CONDITIONS, COUNTS, INTEGERS, ITEMS, JUNK, LESS, NAMES, SIX,
    STATE_SETS, STEPS,
)

coins = Count.item("coins")
low = coins.less(3)


class TermCase(FaultCase):
    def check_term(self, term, made, form):
        """Whether this is an object of just this class with just this form."""
        self.assertIs(term.__class__, made)
        self.check_same(term.form, form)
        self.assertTrue(term == made(form))


class MakingTest(TermCase):
    def test_example(self):
        found = [(2 - coins).form, (coins * 3)(ITEMS, (4,)), str(~coins.less(1)), (coins - 1).set_to("coins") == LESS]
        self.check_same(found, [("-", 2, ("item", "coins")), 12, "not < item coins 1", True])

    def test_expressions(self):
        for form in COUNTS:
            self.check_term(Count(form), Count, form)
        for form in CONDITIONS:
            self.check_term(Rule(form), Rule, form)

    def test_any_other_value(self):
        for thing in JUNK + NAMES + STEPS + BOOLS + (coins, low, {}, object(), 1.5):
            for made in (Count, Rule):
                self.check_fault(UnfitPart(()), made, thing)
                self.check_fault(UnfitPart((1,)), Rule, ("not", thing))
                self.check_fault(UnfitPart((2,)), Count, ("+", 1, thing))
                self.check_fault(UnfitPart((1,)), Count, ("*", thing, None))
                self.check_fault(UnfitPart((2,)), Rule, ("<", COINS, thing))
                self.check_fault(UnfitPart((1, 2)), Rule, ("and", ("=", 1, thing), ("in", [])))

    def test_a_condition_in_place_of_a_number_and_the_other_way_round(self):
        for form in CONDITIONS:
            self.check_fault(UnfitPart(()), Count, form)
            self.check_fault(UnfitPart((2,)), Count, ("-", COINS, form))
            self.check_fault(UnfitPart((1,)), Rule, ("=", form, 1))
        for form in COUNTS:
            self.check_fault(UnfitPart(()), Rule, form)
            self.check_fault(UnfitPart((1,)), Rule, ("not", form))
            self.check_fault(UnfitPart((2,)), Rule, ("or", ("in", ()), form))

    def test_the_first_part_that_is_wrong(self):
        self.check_fault(UnfitPart((1, 2)), Count, ("+", ("-", 1, True), ("-", None, None)))
        self.check_fault(UnfitPart((2, 1)), Count, ("+", ("-", 1, 1), ("-", None, None)))
        self.check_fault(UnfitPart((1, 1)), Rule, ("and", ("not", 1), ("in", ((1,), (0,)))))
        self.check_fault(UnfitPart(()), Rule, ("and", ("not", 1)))

    def test_items_and_sets_of_states(self):
        for name in NAMES:
            self.check_term(Count.item(name), Count, ("item", name))
        for states in STATE_SETS:
            self.check_term(Rule.among(states), Rule, ("in", states))
        for name in JUNK + BAD_NAMES + INTEGERS + BOOLS + (("item", "a"), coins):
            self.check_fault(UnfitPart(()), Count.item, name)
        for states in BAD_STATE_SETS + (coins, low, Rule.among(())):
            self.check_fault(UnfitPart(()), Rule.among, states)

    def test_static_methods(self):
        for made, name in ((Count, "item"), (Rule, "among")):
            self.assertIs(vars(made)[name].__class__, staticmethod)
        self.check_term(coins.item("b"), Count, ("item", "b"))
        self.check_term(low.among(()), Rule, ("in", ()))


class AskingTest(TermCase):
    def test_how_many_parts(self):
        self.check_same([len(Count(form)) for form in (1, COINS, ("+", 1, 2), ("+", ("*", 1, COINS), 2))], [1, 1, 3, 5])
        self.check_same([len(Rule(form)) for form in (("in", ((0,),)), ("=", 1, 2), ("not", ("in", ())))], [1, 3, 2])
        for form in COUNTS:
            self.assertEqual(len(Count(form)), len(parts_of(form)))
        for form in CONDITIONS:
            self.assertEqual(len(Rule(form)), len(parts_of(form)))

    def test_equal(self):
        for made, forms in ((Count, COUNTS), (Rule, CONDITIONS)):
            for k, one in enumerate(forms):
                for n, other in enumerate(forms):
                    self.assertIs(made(one) == made(other), k == n)
                    self.assertIs(made(one) != made(other), k != n)
                for thing in JUNK + INTEGERS + BOOLS + forms:
                    self.assertIs(made(one) == thing, False)
                    self.assertIs(thing == made(one), False)
                    self.assertIs(made(one) != thing, True)
        for form in COUNTS:
            self.assertIs(Count(form) == low, False)
            self.assertIs(low == Count(form), False)

    def test_text(self):
        for made, forms in ((Count, COUNTS), (Rule, CONDITIONS)):
            for form in forms:
                self.check_same(str(made(form)), expression_text(form))
        self.assertEqual(str(coins * -3 + 1), "+ * item coins -3 1")

    def test_parts(self):
        for made, forms in ((Count, COUNTS), (Rule, CONDITIONS)):
            for form in forms:
                found = made(form).parts()
                self.assertTrue(inspect.isgenerator(found))
                self.check_same(list(found), [part for _, part in parts_of(form)])
        self.check_same(list((coins + 1).equals(2).parts()), [("=", ("+", COINS, 1), 2), ("+", COINS, 1), COINS, 1, 2])

    def test_two_generators_at_once(self):
        for term in (coins + 1 - coins, low & ~low):
            one, other = term.parts(), term.parts()
            due = [part for _, part in parts_of(term.form)]
            found = []
            for part in one:
                found.append(part)
                self.check_same(next(other), part)
            self.check_same(found, due)
            self.assertEqual([list(one), list(other), list(term.parts())], [[], [], due])

    def test_no_iterating_by_itself(self):
        for term in (coins, low):
            with self.assertRaises(TypeError):
                iter(term)


class CallingTest(TermCase):
    def test_items_that_fit(self):
        self.check_same([coins(ITEMS, (k,)) for k in range(5)], [0, 1, 2, 3, 4])
        self.check_same([low(ITEMS, (k,)) for k in range(5)], [True] * 3 + [False] * 2)
        self.check_same([Count(7)(ITEMS, (0,)), Rule.among(((0,), (4,)))(ITEMS, (4,)), Rule.among(())(SIX, (1, 1))], [7, True, False])
        self.check_same((Count.item("a") - Count.item("b") * 10)(SIX, (3, 5)), -47)

    def test_by_another_way(self):
        maker = Maker(11)
        for _ in range(60):
            maker.program()
            number, condition = maker.number(3), maker.condition(3)
            for state in all_states(maker.items):
                self.check_same(Count(number)(maker.items, state), value(maker.items, state, number))
                self.check_same(Rule(condition)(maker.items, state), bool(value(maker.items, state, condition)))

    def test_items_that_do_not_fit(self):
        a = Count.item("a")
        self.check_fault(UnfitPart(()), a, ITEMS, (0,))
        self.check_fault(UnfitPart((2,)), coins + a, ITEMS, (0,))
        self.check_fault(UnfitPart((1,)), a.less(coins), ITEMS, (0,))
        self.check_fault(UnfitPart((2, 1)), low & a.less(1), ITEMS, (0,))
        self.check_fault(UnfitPart((1,)), ~Rule.among(((0,), (5,))), ITEMS, (0,))
        self.check_fault(UnfitPart(()), Rule.among(((0,),)), SIX, (0, 0))
        self.check_fault(UnfitPart((1,)), coins - 1, SIX, (0, 0))


class SignsTest(TermCase):
    def test_counts_on_both_sides(self):
        a = Count.item("a")
        for one in (coins, Count(2), coins + 1):
            for other in (a, Count(-3), a * coins):
                self.check_term(one + other, Count, ("+", one.form, other.form))
                self.check_term(one - other, Count, ("-", one.form, other.form))
                self.check_term(one * other, Count, ("*", one.form, other.form))
        self.check_term(coins + coins, Count, ("+", COINS, COINS))

    def test_an_integer_on_either_side(self):
        for term in (coins, Count(5), coins * coins):
            for k in INTEGERS:
                self.check_term(term + k, Count, ("+", term.form, k))
                self.check_term(term - k, Count, ("-", term.form, k))
                self.check_term(term * k, Count, ("*", term.form, k))
                self.check_term(k + term, Count, ("+", k, term.form))
                self.check_term(k - term, Count, ("-", k, term.form))
                self.check_term(k * term, Count, ("*", k, term.form))

    def test_rules_out_of_counts(self):
        for k in INTEGERS:
            self.check_term(coins.less(k), Rule, ("<", COINS, k))
            self.check_term(coins.equals(k), Rule, ("=", COINS, k))
        a = Count.item("a") + 1
        self.check_term(coins.less(a), Rule, ("<", COINS, a.form))
        self.check_term(a.less(coins), Rule, ("<", a.form, COINS))
        self.check_term(a.equals(coins), Rule, ("=", a.form, COINS))
        self.check_term(coins.equals(a), Rule, ("=", COINS, a.form))

    def test_rules_out_of_rules(self):
        high = Rule.among(((3,), (4,)))
        self.check_term(low & high, Rule, ("and", low.form, high.form))
        self.check_term(high & low, Rule, ("and", high.form, low.form))
        self.check_term(low | high, Rule, ("or", low.form, high.form))
        self.check_term(high | high, Rule, ("or", high.form, high.form))
        self.check_term(~low, Rule, ("not", low.form))
        self.check_term(~(~low & high | low), Rule, ("not", ("or", ("and", ("not", low.form), high.form), low.form)))

    def test_values_of_other_kinds(self):
        for thing in (True, False, None, "a", (), (1,), [], low):
            for operation in (
                lambda: coins + thing, lambda: thing + coins, lambda: coins - thing, lambda: thing - coins,
                lambda: coins * thing,
                lambda: thing * coins, lambda: low & (coins if thing is low else thing),
                lambda: low | (coins if thing is low else thing),
            ):
                self.assertRaises(TypeError, operation)


class StepsTest(TermCase):
    def test_steps_that_are_made(self):
        say = coins.said()
        self.check_same(say, ("say", COINS))
        self.check_same((coins - 1).set_to("coins"), LESS)
        self.check_same(Count(2).times(say, LESS), ("repeat", 2, (say, LESS)))
        self.check_same(Count(2).times(), ("repeat", 2, ()))
        self.check_same(low.check("low"), ("check", "low", ("<", COINS, 3)))
        self.check_same(low.choose((say,), (LESS, say)), ("if", ("<", COINS, 3), (say,), (LESS, say)))

    def test_arguments_are_not_looked_at(self):
        for thing in JUNK + INTEGERS + NAMES + STEPS + (coins, low, {}, object()):
            for found, due in (
                (coins.set_to(thing), ("set", thing, COINS)), (coins.times(thing), ("repeat", COINS, (thing,))),
                (coins.times(1, thing), ("repeat", COINS, (1, thing))), (low.check(thing), ("check", thing, low.form)),
                (low.choose(thing, 1), ("if", low.form, thing, 1)), (low.choose(1, thing), ("if", low.form, 1, thing)),
            ):
                self.assertIs(found.__class__, tuple)
                self.check_same(found, due)
        thing = [[1]]
        self.assertIs(coins.set_to(thing)[1], thing)
        self.assertIs(coins.times(thing)[2][0], thing)
        self.assertIs(low.check(thing)[1], thing)
        self.check_same([low.choose(thing, thing)[2] is thing, thing], [True, [[1]]])


class NothingChangesTest(TermCase):
    def test_nothing_changes(self):
        count, rule = coins * 2 + BIG, low | Rule.among(((0,),))
        told = [repr(count.form), repr(rule.form)]
        for term in (count, rule):
            with self.assertRaises(AttributeError):
                term.form = 1
        count + 1, 1 - count, count * count, count.less(1), count.equals(count), count.said(), count.set_to("a"), count.times(1)
        rule & low, low | rule, ~rule, rule.check("a"), rule.choose(1, 2)
        list(count.parts()), list(rule.parts()), str(count), str(rule), len(count), len(rule), count == 1, rule == count
        count(ITEMS, (1,)), rule(ITEMS, (1,))
        self.check_fault(UnfitPart((1, 1)), count, SIX, (0, 0))
        again = count
        again = again + 1
        self.assertEqual([repr(count.form), repr(rule.form)], told)
        self.check_same([len(count), len(rule), len(again)], [5, 5, 7])


if __name__ == "__main__":
    unittest.main()
