"""[6], [9], [46], [47], [52]: checks that come to an earlier place, and come papers as they are returned."""

import itertools
import unittest

from faultcases import FaultCase
from firstfault.comepapers import come_paper
from firstfault.coming import come, may_come, places_for
from firstfault.errors import NoCheck, NotUsable, UnknownKey
from firstfault.programchecker import lets_program
from makers import all_states, keys_of_checks, made_programs, rebuilt, slow_equal, slow_run, with_distinct_words
from samples import (
    BAD, COINS, FULL, GOOD, INTEGERS, ITEMS, JUNK, LESS, NAMES, NESTED, NESTED_KEYS, NO_PLACES, NONE, PLACES, SIX, STEPS,
    TILL, coins,
)

SAY = ("say", COINS)
MORE = ("set", "coins", ("+", COINS, 1))
INNER = (None, (1, 0, 0))
FIRST, SECOND, THIRD, FOURTH = [(None, (k,)) for k in range(4)]
CHECK = (None, (0, 1, 1))


def moved(word, *states):
    """The check as it stands where it came to."""
    return "check", word, ("not", ("in", states))


class ComeTest(FaultCase):
    def check_come(self, program, key, place, due, rows):
        """Whether the check may come, to this program, by a paper with these rows."""
        self.assertIs(may_come(program, key, place), True)
        self.check_same(come(program, key, place), due)
        self.check_same(come_paper(program, key, place), ("comes", rows))
        self.assertTrue(slow_equal(program, due))
        self.assertIn(place, places_for(program, key))

    def check_barred(self, program, key, place, *states):
        """Whether the check may not come, by a paper with one of the states."""
        self.assertIs(may_come(program, key, place), False)
        self.assertIs(come(program, key, place), None)
        word, state = come_paper(program, key, place)
        self.assertEqual(word, "bars")
        self.assertIn(state, states)
        self.assertNotIn(place, places_for(program, key))

    def test_example(self):
        due = (
            moved("none", (0,), (1,)), ("check", "full", ("<", ("item", "coins"), 4)),
            ("repeat", 2, (("set", "coins", ("-", ("item", "coins"), 1)),)), ("say", ("item", "coins")),
        )
        self.check_same(come(TILL, INNER, FIRST)[2], due)
        self.check_same([places_for(TILL, INNER), places_for(TILL, FIRST)], [(FIRST, SECOND), (FIRST,)])

    def test_the_till(self):
        full, repeat, say = TILL[2]
        rows = (((0,), (0,)), ((1,), (1,)))
        later = ("repeat", 2, (LESS,))
        self.check_come(TILL, INNER, SECOND, coins(full, moved("none", (0,), (1,)), later, say), rows)
        self.check_come(TILL, FIRST, FIRST, coins(moved("full", (4,)), repeat, say), (((4,), (4,)),))
        self.check_barred(TILL, INNER, THIRD, (0,), (1,))
        self.check_barred(TILL, FIRST, SECOND, (4,))

    def test_to_its_own_place(self):
        self.check_come(coins(SAY, NONE, LESS), SECOND, SECOND, coins(SAY, moved("none", (0,)), LESS), (((0,), (0,)),))
        inner = (None, (0, 1, 1))
        program = coins(("if", ("=", COINS, 0), (), (LESS, NONE, SAY)))
        due = coins(("if", ("=", COINS, 0), (), (LESS, moved("none", (0,)), SAY)))
        self.check_come(program, inner, inner, due, (((1,), (0,)),))

    def test_ahead_of_what_sets(self):
        program = coins(LESS, LESS, NONE, SAY)
        first = (((0,), (0,)), ((1,), (1,)), ((2,), (2,)))
        self.check_come(program, THIRD, FIRST, coins(moved("none", (0,), (1,), (2,)), LESS, LESS, SAY), first)
        second = (((0,), (0,)), ((1,), (0,)), ((2,), (1,)))
        self.check_come(program, THIRD, SECOND, coins(LESS, moved("none", (0,), (1,)), LESS, SAY), second)
        self.check_barred(program, THIRD, FOURTH, (0,), (1,), (2,))
        two = (SIX, (), (("set", "a", ("item", "b")), ("check", "a", ("<", ("item", "a"), 5))))
        states = tuple([(a, 5) for a in range(6)])
        self.check_come(two, SECOND, FIRST, (SIX, (), (moved("a", *states), two[2][0])), tuple([(s, s) for s in states]))

    def test_ahead_of_other_checks(self):
        # Runs that complain earlier do not count.
        program = coins(FULL, ("check", "a", ("<", COINS, 3)), ("check", "b", ("<", COINS, 2)))
        due = coins(moved("b", (2,)), *program[2][:2])
        self.check_come(program, THIRD, FIRST, due, (((2,), (2,)),))

    def test_not_over_what_is_said(self):
        self.check_barred(coins(SAY, NONE), SECOND, FIRST, (0,))
        program = coins(("if", ("<", 0, COINS), (SAY, LESS), ()), NONE)
        self.check_barred(program, SECOND, FIRST, (1,))
        # Said ahead of the place, or by runs that do not complain by the check.
        self.check_come(coins(SAY, LESS, NONE), THIRD, SECOND, coins(SAY, moved("none", (0,), (1,)), LESS),
                        (((0,), (0,)), ((1,), (1,))))
        program = coins(("if", ("<", 1, COINS), (SAY,), ()), NONE)
        self.check_come(program, SECOND, FIRST, coins(moved("none", (0,)), program[2][0]), (((0,), (0,)),))

    def test_out_of_a_branch_and_into_one(self):
        program = coins(LESS, ("if", ("<", COINS, 2), (LESS, NONE), (FULL, SAY)))
        inner = (None, (1, 0, 1))
        rows = (((0,), (0,)), ((1,), (1,)), ((2,), (2,)))
        due = coins(moved("none", (0,), (1,), (2,)), LESS, ("if", ("<", COINS, 2), (LESS,), (FULL, SAY)))
        self.check_come(program, inner, FIRST, due, rows)
        rows = (((0,), (0,)), ((1,), (0,)), ((2,), (1,)))
        due = coins(LESS, moved("none", (0,), (1,)), ("if", ("<", COINS, 2), (LESS,), (FULL, SAY)))
        self.check_come(program, inner, SECOND, due, rows)
        due = coins(LESS, ("if", ("<", COINS, 2), (moved("none", (0,), (1,)), LESS), (FULL, SAY)))
        self.check_come(program, inner, (None, (1, 0, 0)), due, rows)
        program = coins(("if", ("<", COINS, 2), (LESS,), (LESS, MORE)), ("check", "a", ("in", ((0,), (1,)))))
        self.check_barred(program, SECOND, (None, (0, 0, 0)), (2,), (3,), (4,))
        rows = (((2,), (1,)), ((3,), (2,)), ((4,), (3,)))
        due = coins(("if", ("<", COINS, 2), (LESS,), (LESS, moved("a", (1,), (2,), (3,)), MORE)))
        self.check_come(program, SECOND, (None, (0, 1, 1)), due, rows)

    def test_out_of_a_repetition(self):
        program = coins(("repeat", 3, (LESS, ("check", "a", ("<", 1, COINS)))), SAY)
        rows = tuple([((k,), (k,)) for k in range(5)])
        due = coins(moved("a", *[state for state, _ in rows]), ("repeat", 3, (LESS,)), SAY)
        self.check_come(program, (None, (0, 0, 1)), FIRST, due, rows)
        said = coins(("repeat", 3, (LESS, SAY, ("check", "a", ("<", 1, COINS)))))
        self.check_barred(said, (None, (0, 0, 2)), FIRST, (0,), (1,), (2,), (3,), (4,))

    def test_out_of_a_call(self):
        calls = (("c", ()), ("a", (NONE, LESS)), ("b", (("call", "a"), BAD)))
        program = coins(SAY, ("call", "a"), ("call", "a"), SAY, calls=calls)
        rows = (((0,), (0,)), ((1,), (1,)))
        left = (("c", ()), ("a", (LESS,)), ("b", (("call", "a"), BAD)))
        due = coins(SAY, moved("none", (0,), (1,)), ("call", "a"), ("call", "a"), SAY, calls=left)
        self.check_come(program, ("a", (0,)), SECOND, due, rows)
        # The run from 0 complains in the first call.
        self.check_barred(program, ("a", (0,)), THIRD, (0,))
        self.check_barred(program, ("a", (0,)), FIRST, (0,), (1,))
        self.check_same(places_for(program, ("a", (0,))), (SECOND,))

    def test_a_check_in_a_call_to_a_place_that_is_behind_its_first_time(self):
        calls = (("a", (NONE,)),)
        program = coins(("call", "a"), LESS, ("call", "a"), calls=calls)
        self.check_barred(program, ("a", (0,)), SECOND, (0,))
        program = coins(("set", "coins", ("+", COINS, 1)), ("call", "a"), LESS, LESS, ("call", "a"), calls=calls)
        rows = (((0,), (1,)), ((1,), (2,)))
        due = coins(("set", "coins", ("+", COINS, 1)), ("call", "a"), moved("none", (1,), (2,)), LESS, LESS, ("call", "a"),
                    calls=(("a", ()),))
        self.check_come(program, ("a", (0,)), THIRD, due, rows)

    def test_a_check_by_which_no_run_complains(self):
        for check in (GOOD, ("check", "good", ("<", COINS, 5))):
            program = coins(("if", ("=", COINS, 0), (check, SAY), (LESS,)), SAY, ("repeat", 1, (SAY,)))
            key, new = (None, (0, 0, 0)), moved("good")
            left = ("if", ("=", COINS, 0), (SAY,), (LESS,))
            for place, due in (
                (FIRST, coins(new, left, *program[2][1:])), (SECOND, coins(left, new, *program[2][1:])),
                (THIRD, coins(left, SAY, new, program[2][2])), (key, coins(("if", ("=", COINS, 0), (new, SAY), (LESS,)),
                                                                          *program[2][1:])),
                ((None, (0, 0, 1)), coins(("if", ("=", COINS, 0), (new, SAY), (LESS,)), *program[2][1:])),
                ((None, (0, 1, 0)), coins(("if", ("=", COINS, 0), (SAY,), (new, LESS)), *program[2][1:])),
            ):
                self.check_come(program, key, place, due, ())
            self.check_same(places_for(program, key), (
                FIRST, (None, (0, 0, 0)), (None, (0, 0, 1)), (None, (0, 1, 0)), SECOND, THIRD))

    def test_to_places_behind_it(self):
        program = coins(GOOD, LESS, ("if", ("<", COINS, 1), (SAY,), (MORE, SAY)), SAY)
        new, branch = moved("good"), program[2][2]
        self.check_come(program, FIRST, SECOND, coins(new, LESS, branch, SAY), ())
        self.check_come(program, FIRST, THIRD, coins(LESS, new, branch, SAY), ())
        self.check_come(program, FIRST, FOURTH, coins(LESS, branch, new, SAY), ())
        inside = branch[:2] + ((new, SAY), branch[3])
        self.check_come(program, FIRST, (None, (2, 0, 0)), coins(LESS, inside, SAY), ())
        inside = branch[:3] + ((MORE, new, SAY),)
        self.check_come(program, FIRST, (None, (2, 1, 1)), coins(LESS, inside, SAY), ())
        # Another part with an equal path stays where it is.
        program = coins(("call", "a"), ("if", ("<", 0, 1), (LESS,), ()), calls=(("a", (GOOD, SAY)),))
        due = coins(("call", "a"), ("if", ("<", 0, 1), (new, LESS), ()), calls=(("a", (SAY,)),))
        self.check_come(program, ("a", (0,)), (None, (1, 0, 0)), due, ())

    def test_a_complaining_check_does_not_go_behind_itself(self):
        self.check_barred(coins(FULL, LESS, SAY), FIRST, SECOND, (4,))
        self.check_same(places_for(coins(LESS, LESS, NONE, LESS), THIRD), (FIRST, SECOND, THIRD))

    def test_no_place_in_a_repetition_or_a_call(self):
        program = coins(LESS, ("repeat", 1, (LESS, NONE)), calls=(("a", (LESS,)),))
        self.check_same(places_for(program, (None, (1, 0, 1))), (FIRST, SECOND))
        self.check_same(places_for(coins(("call", "a"), calls=(("a", (BAD,)),)), ("a", (0,))), (FIRST,))
        self.check_same(places_for(coins(calls=(("a", (BAD,)),)), ("a", (0,))), ())

    def test_arguments(self):
        self.assertIs(may_come(place=FIRST, key=INNER, program=TILL), True)
        self.check_same(come(place=FIRST, key=FIRST, program=TILL)[2][0], moved("full", (4,)))
        self.check_same(places_for(key=INNER, program=TILL), (FIRST, SECOND))
        self.check_same(come_paper(place=FIRST, key=FIRST, program=TILL), ("comes", (((4,), (4,)),)))


class ErrorsTest(FaultCase):
    def test_values_that_are_no_keys(self):
        for key in NO_PLACES + PLACES + JUNK + INTEGERS + NAMES + STEPS:
            self.check_fault(UnknownKey(key), places_for, NESTED, key)
            for function in (may_come, come, come_paper):
                self.check_fault(UnknownKey(key), function, NESTED, key, CHECK)
                # Ahead of all else.
                self.check_fault(UnknownKey(key), function, NESTED, key, [None, [0]])
                self.check_fault(UnknownKey(key), function, NESTED, key, ("one", (0,)))

    def test_values_that_are_no_places(self):
        for place in NO_PLACES + PLACES + JUNK + INTEGERS + NAMES + STEPS:
            for function in (may_come, come, come_paper):
                self.check_fault(UnknownKey(place), function, NESTED, CHECK, place)
                # Ahead of NoCheck.
                self.check_fault(UnknownKey(place), function, NESTED, (None, (0,)), place)

    def test_keys_that_are_not_those_of_checks(self):
        for key in NESTED_KEYS:
            if key != CHECK:
                self.check_fault(NoCheck(key), places_for, NESTED, key)
                for function in (may_come, come, come_paper):
                    self.check_fault(NoCheck(key), function, NESTED, key, CHECK)
                    # Ahead of a place that is not outside.
                    self.check_fault(NoCheck(key), function, NESTED, key, ("one", (0,)))

    def test_places_that_are_not_outside(self):
        outside = [FIRST, (None, (0, 1, 0)), CHECK, SECOND, THIRD]
        for place in NESTED_KEYS:
            for function in (may_come, come, come_paper):
                if place not in outside:
                    self.check_fault(NotUsable("place", -1), function, NESTED, CHECK, place)
                else:
                    function(NESTED, CHECK, place)
        self.check_fault(NotUsable("place", -1), come, TILL, INNER, INNER)
        deep = coins(("repeat", 1, (("if", ("<", 0, 1), (SAY,), (SAY,)),)), BAD)
        for place in ((None, (0, 0, 0)), (None, (0, 0, 0, 0, 0)), (None, (0, 0, 0, 1, 0))):
            self.check_fault(NotUsable("place", -1), may_come, deep, SECOND, place)


class ChanceTest(FaultCase):
    def setUp(self):
        self.programs = [TILL] + made_programs(200) + made_programs(60, seed=8)

    def rows(self, program, key, place):
        """The pairs of the states from which runs complain by the check, and those with which they come quietly."""
        found = []
        for state in all_states(program[0]):
            _, _, failed, came = slow_run(program, state)
            if failed == key:
                keys = [visit[0] for visit in came]
                at = None
                if place in keys:
                    rest = came[keys.index(place):]
                    words = [self.words(program)[visit[0]] for visit in rest]
                    at = None if "say" in words else rest[0][1]
                found.append((state, at))
        return found

    def words(self, program):
        found = {}

        def keep(key, step):
            found[key] = step[0]
            return (step,)

        rebuilt(program, keep)
        return found

    def outside(self, program):
        words = self.words(program)
        places = [key for key in words if key[0] is None]
        return sorted([(part, path) for part, path in places if "repeat" not in [
            words[(part, path[:k])] for k in range(1, len(path), 2)]])

    def test_by_another_way(self):
        for program in self.programs:
            for key in keys_of_checks(program):
                places = []
                for place in self.outside(program):
                    rows = self.rows(program, key, place)
                    states = {at for _, at in rows}
                    self.assertIs(may_come(program, key, place), None not in states)
                    if None in states:
                        self.assertIs(come(program, key, place), None)
                        word, state = come_paper(program, key, place)
                        self.assertEqual(word, "bars")
                        self.assertIn((state, None), rows)
                        continue
                    places.append(place)
                    new = []

                    def turn(at, step):
                        if at == key:
                            new.append(moved(step[1], *sorted(states)))
                        return () if at == key else (step,)

                    rebuilt(program, turn)
                    due = rebuilt(program, lambda at, step: (new[0],) * (at == place) + (step,) * (at != key))
                    self.check_same(come(program, key, place), due)
                    self.assertEqual(lets_program(due), lets_program(program))
                    self.assertTrue(slow_equal(program, due))
                    self.check_same(come_paper(program, key, place), ("comes", tuple(rows)))
                self.check_same(places_for(program, key), tuple(places))

    def test_exact_for_earlier_places_with_distinct_words(self):
        barred = 0
        for program in made_programs(120, seed=4):
            states = all_states(program[0])
            if len(states) > 6:
                continue
            program = with_distinct_words(program)
            for key in keys_of_checks(program):
                for place in self.outside(program):
                    if key[0] is not None or place > key or may_come(program, key, place):
                        continue
                    barred = barred + 1
                    for many in range(len(states) + 1):
                        for some in itertools.combinations(states, many):
                            other = rebuilt(program, lambda at, step: (
                                (self.put(program, key, some),) * (at == place) + (step,) * (at != key)))
                            self.assertFalse(slow_equal(program, other))
        self.assertGreater(barred, 10)

    def put(self, program, key, states):
        part, path = key
        steps = program[2] if part is None else dict(program[1])[part]
        for k in range(0, len(path) - 1, 2):
            steps = steps[path[k]][2 + path[k + 1]]
        return moved(steps[path[-1]][1], *states)

    def test_to_its_own_place_and_on(self):
        for program in self.programs[:120]:
            for key in keys_of_checks(program):
                places = places_for(program, key)
                outside = self.outside(program)
                if key in outside:
                    self.assertIn(key, places)
                for place in places:
                    here = come(program, key, place)
                    if not self.rows(program, key, place):
                        continue
                    # It stands where the place was then, if it stood not ahead of it in the same steps.
                    now = place
                    if not self.is_ahead(key, place):
                        for earlier in outside:
                            if earlier <= place and not self.is_ahead(key, earlier):
                                self.assertIs(may_come(here, now, earlier), earlier in places)

    def is_ahead(self, key, place):
        last = len(key[1]) - 1
        return (key[0] == place[0] and place[1][:last] == key[1][:last] and len(place[1]) > last
                and place[1][last] > key[1][last])

    def test_arguments_stay_as_they_are_and_no_call_hangs_on_an_earlier_one(self):
        told = repr(self.programs)
        first = [[places_for(program, key) for key in keys_of_checks(program)] for program in self.programs]
        again = [[places_for(program, key) for key in keys_of_checks(program)] for program in self.programs[::-1]]
        self.assertEqual(again[::-1], first)
        self.assertEqual(repr(self.programs), told)
        key = [None, [0]]
        self.check_fault(UnknownKey(key), come, TILL, key, key)
        self.check_same([key, ITEMS], [[None, [0]], (("coins", 0, 4),)])


if __name__ == "__main__":
    unittest.main()
