"""[9], [34]: list papers and their checker."""

import random
import unittest

from faultcases import FaultCase
from firstfault.errors import FaultError, InvalidPaper
from firstfault.listchecker import lets_list
from firstfault.listpapers import list_paper
from firstfault.lists import idle_checks
from listmakers import (
    ALWAYS, EIGHT, GRID, LIST, LISTS, NEVER, TWICE, made_lists, slow_failing, slow_region, with_other_words,
)
from makers import all_states
from samples import (
    BIG, BOOLS, CONDITIONS, INTEGERS, ITEMS, JUNK, NAMES, SIX, STEPS, with_each_changed, with_wrong_length,
)

PAPER = (("first", (4,)), ("first", (0,)), ("first", (1,)), ("idle", (1,)))
# The second and the third one fail in 3 and 4, as the first does.
TWICE_PAPER = (("first", (3,)), ("idle", (0, 0)), ("idle", (0, 1)))
NO_STATES = JUNK + INTEGERS + NAMES + STEPS + ((5,), (-1,), (BIG,), (4, 4), [4], (True,), (False,), ("4",), ((4,),), ([4],))


def slow_list(items, checks, thing):
    """Return what lets_list has to return for any value, or the fields (word, at) of what it has to raise."""
    if not isinstance(thing, tuple) or not all([isinstance(entry, tuple) and len(entry) == 2 for entry in thing]):
        return "shape", -1
    for word, told in thing:
        if not (isinstance(word, str) and (word == "first" or word == "idle" and isinstance(told, tuple))):
            return "shape", -1
    if len(thing) != len(checks):
        return "many", -1
    for k, (word, told) in enumerate(thing):
        failing = [slow_failing(items, checks, state) for state in all_states(items)]
        failing = [row for row in failing if k in row]
        if word == "first":
            if repr(told) not in [repr(state) for state in slow_region(items, checks, k)]:
                return "state", k
            continue
        if len(told) != len(failing):
            return "rows", k
        for n, row in enumerate(failing):
            if repr(told[n]) not in [repr(number) for number in row if number < k]:
                return "ahead", (k, n)
    return tuple([k for k, (word, _) in enumerate(thing) if word == "idle"])


class LetsListTest(FaultCase):
    def check_wrong(self, word, at, thing, items=ITEMS, checks=LIST):
        self.check_fault(InvalidPaper(word, at), lets_list, items, checks, thing)
        self.assertEqual(repr(slow_list(items, checks, thing)), repr((word, at)))

    def test_papers_that_are_right(self):
        self.check_same(lets_list(ITEMS, LIST, PAPER), (3,))
        self.check_same(lets_list(thing=PAPER, checks=LIST, items=ITEMS), (3,))
        self.check_same(lets_list(ITEMS, (), ()), ())
        self.check_same(lets_list(ITEMS, (NEVER,), (("idle", ()),)), (0,))
        for k in range(5):
            self.check_same(lets_list(ITEMS, (ALWAYS,), (("first", (k,)),)), ())
            self.check_same(lets_list(ITEMS, (ALWAYS, ALWAYS), (("first", (k,)), ("idle", (0,) * 5))), (1,))

    def test_any_state_of_a_region_and_any_check_ahead(self):
        for state in ((3,), (4,)):
            for row in ((0, 0), (0, 1), (1, 0), (1, 1)):
                self.check_same(lets_list(ITEMS, TWICE, (("first", state), ("idle", (0, 0)), ("idle", row))), (1, 2))

    def test_shape(self):
        for thing in JUNK + INTEGERS + NAMES + STEPS + CONDITIONS:
            if thing != ():
                self.check_wrong("shape", -1, thing)
            self.check_wrong("shape", -1, PAPER[:3] + (thing,))
            self.check_wrong("shape", -1, (thing,) + PAPER)
            if not isinstance(thing, tuple):
                self.check_wrong("shape", -1, PAPER[:3] + (("idle", thing),))
        self.check_wrong("shape", -1, list(PAPER))
        for entry in PAPER[0], PAPER[3]:
            for wrong in with_wrong_length(entry):
                self.check_wrong("shape", -1, PAPER[:2] + (wrong,))
        for entry in (("First", (4,)), ("idle", [1]), ("idle", None), ("idle", 1), ("", ()), (None, ()), (True, ()), ((4,), "first"),
                      ("idle", {1}), (["first"], (4,)), ("state", (4,))):
            # Also where there are too many.
            self.check_wrong("shape", -1, PAPER + (entry,))

    def test_many(self):
        for thing in ((), PAPER[:3], PAPER[1:], PAPER + PAPER[3:], PAPER + PAPER):
            self.check_wrong("many", -1, thing)
        self.check_wrong("many", -1, PAPER, ITEMS, ())
        # Ahead of what is wrong with an entry.
        self.check_wrong("many", -1, (("first", None),) * 3)

    def test_state(self):
        for k in range(3):
            for state in NO_STATES + tuple([(n,) for n in range(5) if (n,) != PAPER[k][1]]):
                for thing in with_each_changed(PAPER, k, [("first", state)]):
                    self.check_wrong("state", k, thing)
        # None is one of a region that is empty.
        for state in NO_STATES + tuple([(n,) for n in range(5)]):
            self.check_wrong("state", 3, PAPER[:3] + (("first", state),))
        for state in ((0,), (0, 6), (4, True), [4, 0]):
            self.check_wrong("state", 0, (("first", state),), SIX, GRID[:1])
        self.check_same(lets_list(SIX, GRID[:1], (("first", (4, 0)),)), ())

    def test_rows(self):
        for row in ((), (1, 1), (1, 1, 1), (None, None)):
            self.check_wrong("rows", 3, PAPER[:3] + (("idle", row),))
        self.check_wrong("rows", 0, (("idle", ()),) + PAPER[1:])
        for row in ((), (0,), (0, 0, 0)):
            self.check_wrong("rows", 1, (TWICE_PAPER[0], ("idle", row), TWICE_PAPER[2]), ITEMS, TWICE)
        # Ahead of an element, but behind the entries before.
        self.check_wrong("state", 0, (("first", (3,)), ("idle", ()), ("idle", ())), ITEMS, LIST[:3])
        self.check_wrong("rows", 1, (PAPER[0], ("idle", ()), ("first", None), ("idle", (3,))))

    def test_ahead(self):
        for number in JUNK + NAMES + STEPS + BOOLS + (-1, 0, 3, 4, BIG, -BIG, [1], (1,), "1", None):
            self.check_wrong("ahead", (3, 0), PAPER[:3] + (("idle", (number,)),))
        # There, the one before fails, too.
        self.check_same(lets_list(ITEMS, LIST, PAPER[:3] + (("idle", (2,)),)), (3,))
        for n in range(2):
            for number in (2, 3, -1, True, False, None, [0], "0", (0,)):
                row = TWICE_PAPER[2][1]
                self.check_wrong("ahead", (2, n), TWICE_PAPER[:2] + (("idle", row[:n] + (number,) + row[n + 1:]),), ITEMS, TWICE)
        self.check_wrong("ahead", (1, 0), (TWICE_PAPER[0], ("idle", (1, 1)), TWICE_PAPER[2]), ITEMS, TWICE)
        # A check that fails for itself alone is not idle.
        self.check_wrong("ahead", (0, 0), (("idle", (0,)),) + PAPER[1:])

    def test_entries_of_the_other_kind(self):
        for k in range(3):
            row, fault, at = ((0,), "ahead", (0, 0)) if k == 0 else ((), "rows", k)
            self.check_wrong(fault, at, PAPER[:k] + (("idle", row),) + PAPER[k + 1:])
        self.check_wrong("state", 3, PAPER[:3] + (("first", (0,)),))
        self.check_wrong("state", 1, TWICE_PAPER[:1] + (("first", (3,)),) + TWICE_PAPER[2:], ITEMS, TWICE)

    def test_entries_exchanged_or_twice(self):
        self.check_wrong("state", 0, PAPER[1:2] + PAPER[:1] + PAPER[2:])
        self.check_wrong("state", 1, PAPER[:1] + PAPER[:1] + PAPER[2:])
        self.check_wrong("rows", 2, PAPER[:2] + PAPER[3:] + PAPER[2:3])

    def test_true_is_not_1(self):
        self.check_wrong("ahead", (3, 0), PAPER[:3] + (("idle", (True,)),))
        self.check_wrong("state", 2, PAPER[:2] + (("first", (True,)), PAPER[3]))


class ListPaperTest(FaultCase):
    def test_papers(self):
        self.check_same(list_paper(ITEMS, ()), ())
        self.check_same(list_paper(checks=LIST, items=ITEMS), PAPER)
        self.check_same(list_paper(ITEMS, (NEVER,)), (("idle", ()),))
        self.check_same(lets_list(ITEMS, EIGHT, list_paper(ITEMS, EIGHT)), (4, 5, 6, 7))

    def test_chance(self):
        for items, checks in list(LISTS) + made_lists(120) + [(items, with_other_words(row)) for items, row in made_lists(60, 8)]:
            paper = list_paper(items, checks)
            due = idle_checks(items, checks)
            self.assertEqual(slow_list(items, checks, paper), due)
            self.check_same(lets_list(items, checks, paper), due)

    def test_changed_papers(self):
        chance = random.Random(4)
        found = {"right": 0, "wrong": 0}
        for items, checks in list(LISTS) + made_lists(120, seed=2):
            paper = list_paper(items, checks)
            for _ in range(12):
                thing = tuple([self.changed(chance, items, entry) for entry in paper])
                due = slow_list(items, checks, thing)
                if due[:1] and isinstance(due[0], str):
                    found["wrong"] = found["wrong"] + 1
                    self.check_fault(InvalidPaper(*due), lets_list, items, checks, thing)
                else:
                    found["right"] = found["right"] + 1
                    self.check_same(lets_list(items, checks, thing), due)
                    self.assertEqual(due, idle_checks(items, checks))
        self.assertGreater(min(found.values()), 100)

    def changed(self, chance, items, entry):
        word, told = entry
        if chance.random() < 0.7:
            return entry
        if word == "first":
            return word, chance.choice(all_states(items))
        return word, tuple([chance.choice((n, n, n, 0, 1, 2)) for n in told])

    def test_arguments_stay_as_they_are_and_no_call_hangs_on_an_earlier_one(self):
        rows = list(LISTS) + made_lists(40)
        told = repr(rows)
        first = [list_paper(*row) for row in rows]
        self.check_same([list_paper(*row) for row in rows[::-1]][::-1], first)
        thing = [["first", [4]]]
        with self.assertRaises(FaultError):
            lets_list(ITEMS, LIST, thing)
        self.check_same([repr(rows), thing], [told, [["first", [4]]]])


if __name__ == "__main__":
    unittest.main()
