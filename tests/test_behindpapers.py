"""[9], [48], [49]: behind papers and their checker."""

import unittest

from faultcases import FaultCase
from firstfault.behindchecker import lets_behind
from firstfault.behindpapers import behind_paper
from firstfault.errors import FaultError, InvalidPaper, NoCheck, NotUsable, UnknownKey
from firstfault.gobehind import may_go_behind
from makers import Maker, all_states, keys_of_checks, made_programs, slow_run, steps_by_key, value
from samples import (
    BAD, BIG, COINS, CONDITIONS, FULL, GOOD, INTEGERS, JUNK, LESS, NAMES, NESTED, NESTED_KEYS, NONE, NO_PLACES, PLACES,
    STEPS, TILL, coins, with_each_changed, with_wrong_length,
)

SAY = ("say", COINS)
MORE = ("set", "coins", ("+", COINS, 1))
FIRST, SECOND = (None, (0,)), (None, (1,))
INNER = (None, (1, 0, 0))
CHECK = (None, (0, 1, 1))
# 1 and 2 become 0 and 1; both hold.
LOW = ("check", "low", ("not", ("in", ((0,), (4,)))))
FAR = ("set", "coins", ("-", 4, COINS))
PROGRAM = coins(LOW, FAR)
ROWS = tuple([((k,), (4 - k,)) for k in range(5)])
GOES = ("goes", ROWS)
SAME = ("same", (0,), (1,))
NO_STATES = JUNK + INTEGERS + NAMES + STEPS + (
    (5,), (-1,), (BIG,), (2, 2), [2], [0], (True,), (False,), ("2",), ((2,),), ((0,), (0,)), 2,
)


class LetsBehindTest(FaultCase):
    def check_wrong(self, word, at, thing, program=PROGRAM, key=FIRST):
        self.check_fault(InvalidPaper(word, at), lets_behind, program, key, thing)

    def test_papers_that_are_right(self):
        self.assertIs(lets_behind(PROGRAM, FIRST, GOES), True)
        self.assertIs(lets_behind(thing=GOES, key=FIRST, program=PROGRAM), True)
        self.assertIs(lets_behind(TILL, INNER, SAME), False)
        self.assertIs(lets_behind(coins(FULL, MORE), FIRST, ("same", (4,), (3,))), False)
        # Some become the same, but all of them fail, or all hold.
        low = coins(("check", "a", ("<", 1, COINS)), LESS)
        self.assertIs(lets_behind(low, FIRST, ("goes", tuple([((k,), (max(k - 1, 0),)) for k in range(5)]))), True)
        for check in (BAD, GOOD):
            all_same = ("goes", tuple([((k,), (2,)) for k in range(5)]))
            self.assertIs(lets_behind(coins(check, ("set", "coins", 2)), FIRST, all_same), True)

    def test_no_run_comes_to_the_check(self):
        program = coins(BAD, NONE, LESS, calls=(("a", (FULL, MORE)),))
        for key in (SECOND, ("a", (0,))):
            self.check_same(behind_paper(program, key), ("goes", ()))
            self.assertIs(lets_behind(program, key, ("goes", ())), True)
            self.check_wrong("many", -1, ("goes", ROWS[:1]), program, key)
            self.check_wrong("one", -1, SAME, program, key)

    def test_shape(self):
        for thing in JUNK + INTEGERS + NAMES + STEPS + CONDITIONS:
            self.check_wrong("shape", -1, thing)
            if not isinstance(thing, tuple):
                self.check_wrong("shape", -1, ("goes", thing))
            if not (isinstance(thing, tuple) and len(thing) == 2):
                self.check_wrong("shape", -1, ("goes", ROWS[:4] + (thing,)))
                self.check_wrong("shape", -1, ("goes", (thing,)))
        for thing in with_wrong_length(GOES) + with_wrong_length(SAME)[:1] + with_wrong_length(SAME)[2:]:
            self.check_wrong("shape", -1, thing)
        for thing in (
            ("same", (0,)), ("same", (0,), (1,), (2,)), ["same", (0,), (1,)], ("goes", (0,), (1,)),
            ("goes", list(ROWS)), ("goes",),
            ("same", ROWS), ("Goes", ROWS), ("", ROWS), (None, ROWS), (True, (0,), (1,)), ("same",), ("comes", ROWS),
            (ROWS, "goes"),
            ("goes", tuple([list(row) for row in ROWS])), ("goes", ROWS[:4] + (((4,), (0,), 0),)), ("goes", {}),
            ("goes", "ab"),
        ):
            self.check_wrong("shape", -1, thing)

    def test_many(self):
        for rows in ((), ROWS[:4], ROWS[1:], ROWS + ROWS[4:], ROWS + ROWS, ROWS + (((5,), (5,)),), ((None, None),) * 4):
            self.check_wrong("many", -1, ("goes", rows))
        # Ahead of what is wrong with a pair.
        self.check_wrong("many", -1, ("goes", ROWS[:3] + ((None, None),)))

    def test_state(self):
        for k in range(5):
            for state in NO_STATES + tuple([(n,) for n in range(5) if n != k]):
                self.check_wrong("state", k, ("goes", with_each_changed(ROWS, k, [(state, ROWS[k][1])])[0]))
                # Ahead of "later".
                self.check_wrong("state", k, ("goes", with_each_changed(ROWS, k, [(state, None)])[0]))
        self.check_wrong("state", 1, ("goes", ROWS[:1] + ROWS[:1] + ROWS[2:]))
        self.check_wrong("state", 0, ("goes", ROWS[::-1]))
        self.check_wrong("state", 2, ("goes", ROWS[:2] + (ROWS[3], ROWS[2], ROWS[4])))

    def test_later(self):
        for k in range(5):
            for state in NO_STATES + tuple([(n,) for n in range(5) if n != 4 - k]):
                self.check_wrong("later", k, ("goes", with_each_changed(ROWS, k, [(ROWS[k][0], state)])[0]))
        # The first pair with an error, whatever stands behind it.
        self.check_wrong("later", 1, ("goes", ROWS[:1] + ((ROWS[1][0], (0,)), (None, None)) + ROWS[3:]))
        self.check_wrong("state", 1, ("goes", ROWS[:1] + ((None, ROWS[1][1]), (ROWS[2][0], None)) + ROWS[3:]))

    def test_true_is_not_1(self):
        self.check_wrong("state", 1, ("goes", ROWS[:1] + (((True,), (3,)),) + ROWS[2:]))
        self.check_wrong("later", 3, ("goes", ROWS[:3] + (((3,), (True,)),) + ROWS[4:]))
        self.check_wrong("one", -1, ("same", (False,), (1,)), TILL, INNER)
        self.check_wrong("other", -1, ("same", (0,), (True,)), TILL, INNER)

    def test_same_behind_all_pairs(self):
        less = ("goes", tuple([((k,), (max(k - 1, 0),)) for k in range(5)]))
        self.check_wrong("same", 1, less, coins(NONE, LESS), FIRST)
        # Ahead of it, each pair.
        self.check_wrong("later", 4, ("goes", less[1][:4] + (((4,), (4,)),)), coins(NONE, LESS), FIRST)
        more = ("goes", tuple([((k,), (min(k + 1, 4),)) for k in range(5)]))
        self.check_wrong("same", 4, more, coins(FULL, MORE), FIRST)
        # The first of several: 3 becomes what 0 and 1 do, of which 1 fails.
        put = ("set", "coins", 2)
        all_same = ("goes", tuple([((k,), (2,)) for k in range(5)]))
        for k in range(1, 5):
            self.check_wrong("same", k, all_same, coins(("check", "a", ("<", COINS, k)), put), FIRST)
            self.check_wrong("same", k, all_same, coins(("check", "a", ("not", ("<", COINS, k))), put), FIRST)

    def test_one_and_other(self):
        for state in NO_STATES:
            self.check_wrong("one", -1, ("same", state, (1,)), TILL, INNER)
            self.check_wrong("other", -1, ("same", (0,), state), TILL, INNER)
            # "one" comes first.
            self.check_wrong("one", -1, ("same", state, None), TILL, INNER)
        for k in (1, 2, 3, 4):
            self.check_wrong("one", -1, ("same", (k,), (1,)), TILL, INNER)
        # No run comes there with 4.
        for k in (0, 4):
            self.check_wrong("other", -1, ("same", (0,), (k,)), TILL, INNER)
        self.check_wrong("one", -1, ("same", (1,), (0,)), TILL, INNER)
        program = coins(FULL, LOW, ("set", "coins", 1))
        self.assertIs(lets_behind(program, SECOND, ("same", (0,), (3,))), False)
        self.check_wrong("one", -1, ("same", (4,), (3,)), program, SECOND)

    def test_later_of_same(self):
        for k in (2, 3):
            self.check_wrong("later", -1, ("same", (0,), (k,)), TILL, INNER)
        for one in (0, 4):
            for other in (1, 2, 3):
                self.check_wrong("later", -1, ("same", (one,), (other,)))


class ErrorsTest(FaultCase):
    def test_values_that_are_no_keys(self):
        for key in NO_PLACES + PLACES + JUNK + INTEGERS + NAMES + STEPS:
            self.check_fault(UnknownKey(key), behind_paper, NESTED, key)
            for paper in (GOES, SAME, None):
                self.check_fault(UnknownKey(key), lets_behind, NESTED, key, paper)

    def test_keys_that_are_not_those_of_checks(self):
        for key in NESTED_KEYS:
            if key != CHECK:
                self.check_fault(NoCheck(key), behind_paper, NESTED, key)
                self.check_fault(NoCheck(key), lets_behind, NESTED, key, None)
        self.check_fault(NoCheck(FIRST), behind_paper, coins(SAY, LESS), FIRST)
        self.check_fault(NoCheck(FIRST), lets_behind, coins(LESS, LESS), FIRST, GOES)

    def test_no_set_behind_it(self):
        calls = (("a", (LESS, FULL)),)
        for other in (SAY, FULL, ("if", FULL[2], (LESS,), (LESS,)), ("repeat", 1, (LESS,)), ("call", "a")):
            program = coins(FULL, other, LESS, calls=calls)
            self.check_fault(NotUsable("behind", -1), behind_paper, program, FIRST)
            self.check_fault(NotUsable("behind", -1), lets_behind, program, FIRST, None)
        for program, key in ((coins(FULL), FIRST), (coins(LESS, FULL), SECOND), (coins(LESS, calls=calls), ("a", (1,))), (NESTED, CHECK)):
            self.check_fault(NotUsable("behind", -1), behind_paper, program, key)
            self.check_fault(NotUsable("behind", -1), lets_behind, program, key, GOES)


class ChanceTest(FaultCase):
    def setUp(self):
        self.programs = [TILL, PROGRAM] + made_programs(100)
        maker = Maker(7)
        for _ in range(120):
            items, calls, steps = maker.program()
            pair = ("check", "w", maker.condition(2)), ("set", maker.chance.choice(items)[0], maker.number(1))
            self.programs.append((items, calls, steps[:1] + pair + (("repeat", 2, pair[::-1] + pair),) + steps[1:]))

    def rows(self):
        """Each check with a "set" behind it: (program, key, a row for each state that comes to it, ascending)."""
        for program in self.programs:
            steps = steps_by_key(program)
            for part, path in keys_of_checks(program):
                put = steps.get((part, path[:-1] + (path[-1] + 1,)), ("none",))
                if put[0] == "set":
                    yield program, (part, path), self.due(program, (part, path), steps[(part, path)], put)

    def due(self, program, key, check, put):
        """The triples (state, later, whether the check holds) for the states that come to the check."""
        items = program[0]
        came = {at for state in all_states(items) for visit, at in slow_run(program, state)[3] if visit == key}
        return [(at, slow_run((items, (), (put,)), at)[1], bool(value(items, at, check[2]))) for at in sorted(came)]

    def test_papers_as_returned(self):
        many = {"goes": 0, "same": 0}
        for program, key, due in self.rows():
            paper = behind_paper(program, key)
            many[paper[0]] = many[paper[0]] + 1
            self.assertIs(lets_behind(program, key, paper), paper[0] == "goes")
            self.assertIs(may_go_behind(program, key), paper[0] == "goes")
            if paper[0] == "goes":
                self.check_same(paper, ("goes", tuple([row[:2] for row in due])))
        self.assertGreater(min(many.values()), 15)
        self.check_same(behind_paper(key=FIRST, program=PROGRAM), GOES)
        self.check_same(behind_paper(TILL, INNER), SAME)

    def test_goes_with_pairs_left_out_twice_exchanged_or_with_other_states(self):
        for program, key, due in self.rows():
            rows = tuple([row[:2] for row in due])
            apart = [k for k, (_, later, holds) in enumerate(due) if (later, not holds) in [row[1:] for row in due[:k]]]
            if apart:
                self.check_fault(InvalidPaper("same", apart[0]), lets_behind, program, key, ("goes", rows))
            self.check_fault(InvalidPaper("many", -1), lets_behind, program, key, ("goes", rows + rows[:1] + ((0, 0),)))
            for k, (state, later) in enumerate(rows):
                for word, row in (("state", (state + (0,), None)), ("later", (state, later + (0,)))):
                    self.check_fault(InvalidPaper(word, k), lets_behind, program, key, ("goes", rows[:k] + (row,) + rows[k + 1:]))
                self.check_fault(InvalidPaper("many", -1), lets_behind, program, key, ("goes", rows[:k] + rows[k + 1:]))
                if k > 0:
                    twice = rows[:k] + rows[k - 1:k] + rows[k + 1:]
                    self.check_fault(InvalidPaper("state", k), lets_behind, program, key, ("goes", twice))
                    exchanged = rows[:k - 1] + (rows[k], rows[k - 1]) + rows[k + 1:]
                    self.check_fault(InvalidPaper("state", k - 1), lets_behind, program, key, ("goes", exchanged))

    def test_each_pair_of_states_as_same(self):
        for program, key, due in self.rows():
            states = all_states(program[0])
            found = {state: (later, holds) for state, later, holds in due}
            for one in states:
                for other in states[:7] + [one]:
                    fault = "later"
                    if one not in found or found[one][1]:
                        fault = "one"
                    elif other not in found or not found[other][1]:
                        fault = "other"
                    elif found[one][0] == found[other][0]:
                        self.assertIs(lets_behind(program, key, ("same", one, other)), False)
                        self.assertIs(may_go_behind(program, key), False)
                        continue
                    self.check_fault(InvalidPaper(fault, -1), lets_behind, program, key, ("same", one, other))

    def test_arguments_stay_as_they_are_and_no_call_hangs_on_an_earlier_one(self):
        rows = list(self.rows())
        told = repr(rows)
        first = [behind_paper(program, key) for program, key, _ in rows]
        self.check_same([behind_paper(program, key) for program, key, _ in rows[::-1]][::-1], first)
        thing = ["goes", [((0,), (0,))]]
        with self.assertRaises(FaultError):
            lets_behind(PROGRAM, FIRST, thing)
        self.check_same([repr(rows), thing], [told, ["goes", [((0,), (0,))]]])


if __name__ == "__main__":
    unittest.main()
