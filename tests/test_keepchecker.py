"""[9], [42]: the checker of keep papers."""

import random
import unittest

from faultcases import FaultCase
from firstfault.errors import FaultError, InvalidPaper
from firstfault.keepchecker import lets_keep
from firstfault.keeping import fewest_kept
from firstfault.keeppapers import keep_paper
from keepslowly import slow_keep
from listmakers import ALWAYS, GRID, LIST, LISTS, NEVER, TWICE, made_lists, with_other_words
from makers import all_states
from samples import (
    BIG, CONDITIONS, FULL, INTEGERS, ITEMS, JUNK, NAMES, NONE, SIX, STEPS, with_wrong_length,
)

NOTHING = ("state", (3,))
TREE = ("both", 0, None, ("both", 1, None, ("both", 2, None, NOTHING)))
# What LIST keeps, and a tree for it: to drop any of these checks changes at once what is told.
KEPT = (0, 1, 2)
TWO = ("both", 2, None, ("state", (1,)))
ONE = ("both", 1, TWO, ("state", (0,)))
LIST_TREE = ("both", 0, ONE, ("state", (4,)))


class LetsKeepTest(FaultCase):
    def check_wrong(self, word, at, thing, checks=TWICE, items=ITEMS):
        self.check_fault(InvalidPaper(word, at), lets_keep, items, checks, thing)
        self.assertEqual(repr(slow_keep(items, checks, thing)), repr((word, at)))

    def check_right(self, many, thing, checks=TWICE, items=ITEMS):
        self.check_same(lets_keep(items, checks, thing), many)
        self.check_same(slow_keep(items, checks, thing), many)

    def test_example(self):
        self.check_same(lets_keep(ITEMS, TWICE, ((0,), TREE)), 1)
        self.check_wrong("parts", (3,), ((1, 2), None))

    def test_papers_that_are_right(self):
        self.check_same(lets_keep(thing=(KEPT, LIST_TREE), checks=LIST, items=ITEMS), 3)
        for kept in ((0,), (2,)):
            self.check_right(1, (kept, TREE))
            # In another order of the checks, and with another state.
            tree = ("both", 2, None, ("both", 0, None, ("state", (4,))))
            self.check_right(1, (kept, tree))
        self.check_right(3, (KEPT, LIST_TREE), LIST)
        other = ("both", 3, ("both", 0, ONE, ("state", (4,))), ("both", 0, ONE, ("state", (4,))))
        self.check_wrong("many", (0, 0, 0), (KEPT, other), LIST)
        short = ("both", 0, ("both", 1, None, ("state", (0,))), ("state", (4,)))
        other = ("both", 3, short, ("both", 0, ONE, ("state", (4,))))
        self.check_right(3, (KEPT, other), LIST)

    def test_no_check_is_needed(self):
        for checks in ((), (NEVER,), (NEVER, NEVER)):
            self.check_right(0, ((), None), checks)
            self.check_right(0, ((), None), checks, SIX)
            self.check_wrong("many", (), ((), NOTHING), checks)
            self.check_wrong("many", (), ((), ("both", 0, None, None)), checks)

    def test_shape(self):
        for thing in JUNK + INTEGERS + NAMES + STEPS + CONDITIONS:
            self.check_wrong("shape", -1, thing)
            if not isinstance(thing, tuple) or thing in ((None,), ((),), (True,), ("item",)):
                self.check_wrong("shape", -1, (thing, TREE))
            if thing is not None:
                for tree in (thing, TREE[:2] + (thing, TREE[3]), TREE[:3] + (thing,), TREE[:3] + (TREE[3][:3] + (thing,),)):
                    self.check_wrong("shape", -1, ((0,), tree))
        for thing in with_wrong_length(((0,), TREE)) + [([0], TREE), ((0,),), (TREE, (0,)), ("0", TREE), ({}, TREE)]:
            self.check_wrong("shape", -1, thing)
        for kept in ((-1,), (0, -1), (True,), (0, False), ("0",), (None,), ((0,),), (0, [1]), (-BIG,)):
            self.check_wrong("shape", -1, (kept, TREE))

    def test_shape_of_a_node(self):
        for node in (
            (), ("state",), ("state", 3), ("state", [3]), ("state", (True,)), ("state", ("3",)), ("state", (None,)),
            ("state", (3,), 0),
            ["state", (3,)], ("State", (3,)), (None, (3,)), ("state", ((3,),)), ("both", 0, None),
            ("both", 0, None, None, None),
            ("both", -1, None, None), ("both", True, None, None), ("both", "0", None, None), ("both", None, None, None),
            ["both", 0, None, None], ("both", 0, (), None), ("both", 0, None, 0), ("check", 0, None, None),
            ("both", (0,), None, None),
            ("both", 0, None, ["state", (3,)]), ("state", 0, None, None), ("both", (3,)), (("state",), (3,)), False, "",
            0,
        ):
            for tree in (node, TREE[:2] + (node, TREE[3]), TREE[:3] + (node,), TREE[:3] + (TREE[3][:3] + (node,),)):
                self.check_wrong("shape", -1, ((0,), tree))
                # Ahead of what is wrong with kept.
                self.check_wrong("shape", -1, ((9, 9), tree))

    def test_kept(self):
        for k in (3, 4, BIG):
            self.check_wrong("kept", 0, ((k,), TREE))
            self.check_wrong("kept", 1, ((0, k), TREE))
            self.check_wrong("kept", 2, ((0, 1, k), TREE))
        for kept, at in (((0, 0), 1), ((1, 0), 1), ((0, 2, 1), 2), ((0, 2, 2), 2), ((2, 1, 9), 1), ((9, 0), 0), ((0, 1, 2, 2), 3),
                         ((0, 1, 2, 3), 3), ((1, 2, 0), 2), ((2, 2, 2), 1)):
            self.check_wrong("kept", at, (kept, TREE))
            self.check_wrong("kept", at, (kept, None))
        self.check_wrong("kept", 0, ((0,), None), ())

    def test_parts(self):
        for kept in ((), (1,), (1, 2)):
            self.check_wrong("parts", (3,), (kept, TREE))
            self.check_wrong("parts", (3,), (kept, None))
        self.check_wrong("parts", (4,), ((1, 2), None), LIST)
        self.check_wrong("parts", (1,), ((0, 1), None), LIST)
        self.check_wrong("parts", (0,), ((0, 2), None), LIST)
        # The least of several.
        self.check_wrong("parts", (0,), ((), None), LIST)
        self.check_wrong("parts", (0, 0), ((), None), (ALWAYS,), SIX)
        self.check_wrong("parts", (0, 0), ((), None), GRID, SIX)

    def test_more_than_the_fewest(self):
        self.check_wrong("many", (0,), ((0, 1), TREE))
        tree = ("both", 0, ("both", 1, None, ("both", 2, None, ("state", (3,)))), TREE[3])
        self.check_wrong("state", (0, 1, 1), ((0, 1), tree))
        self.check_wrong("many", (), ((0, 1), None))

    def test_many(self):
        self.check_wrong("many", (), ((0,), None))
        self.check_wrong("many", (0,), ((0,), TREE[:2] + (NOTHING, TREE[3])))
        self.check_wrong("many", (0,), ((0,), TREE[:2] + (TREE, TREE[3])))
        self.check_wrong("many", (1,), ((0,), TREE[:3] + (None,)))
        self.check_wrong("many", (1, 1), ((0,), TREE[:3] + (TREE[3][:3] + (None,),)))
        self.check_wrong("many", (1, 0), ((0,), TREE[:3] + (TREE[3][:2] + (NOTHING, None),)))
        # Not by a number in place of another: as many are kept, but too late.
        self.check_wrong("many", (0,), ((0, 1, 2), ("both", 0, None, LIST_TREE[3])), LIST)
        self.check_wrong("many", (0, 0, 0), (KEPT, LIST_TREE[:2] + (ONE[:2] + (TWO[:2] + (NOTHING, TWO[3]), ONE[3]), LIST_TREE[3])), LIST)

    def test_check(self):
        for k in (3, 4, BIG):
            self.check_wrong("check", (), ((0,), ("both", k) + TREE[2:]))
            self.check_wrong("check", (1,), ((0,), TREE[:3] + (("both", k, None, NOTHING),)))
        # Decided already: dropped, or kept.
        self.check_wrong("check", (1,), ((0,), TREE[:3] + (("both", 0, None, NOTHING),)))
        self.check_wrong("check", (1, 1), ((0,), TREE[:3] + (TREE[3][:3] + (("both", 0, None, NOTHING),),)))
        self.check_wrong("check", (0,), (KEPT, LIST_TREE[:2] + (("both", 0, TWO, ("state", (0,))), LIST_TREE[3])), LIST)
        # Ahead of what is in it.
        self.check_wrong("check", (), ((0,), ("both", 3, NOTHING, None)))

    def test_state(self):
        for state in ((), (5,), (-1,), (BIG,), (3, 3), (0, 0)):
            self.check_wrong("state", (), ((0,), ("state", state)))
            self.check_wrong("state", (1, 1, 1), ((0,), TREE[:3] + (TREE[3][:3] + (("both", 2, None, ("state", state)),),)))
        # The list tells None there, or an open check can still tell the word.
        for k in range(3):
            self.check_wrong("state", (1, 1, 1), ((0,), TREE[:3] + (TREE[3][:3] + (("both", 2, None, ("state", (k,))),),)))
        for k in range(5):
            self.check_wrong("state", (), ((0,), ("state", (k,))))
            self.check_wrong("state", (1,), ((0,), TREE[:3] + (("state", (k,)),)))
            self.check_wrong("state", (1, 1), ((0,), TREE[:3] + (TREE[3][:3] + (("state", (k,)),),)))

    def test_states_where_a_check_that_is_kept_bars_those_behind_it(self):
        # b is kept ahead of the second a, and the first a is dropped.
        tree = ("both", 1, ("both", 0, None, ("state", (3,))), ("both", 0, None, ("both", 2, None, ("state", (4,)))))
        self.check_wrong("many", (0,), ((0,), tree))
        three = TWICE + (("check", "c", NONE[2]),)
        first = ("both", 0, ("both", 3, None, ("state", (0,))), ("state", (3,)))
        rest = ("both", 2, ("both", 3, None, ("state", (0,))), ("state", (3,)))
        other = ("both", 0, ("both", 3, None, ("state", (0,))), rest)
        self.check_right(2, ((0, 3), ("both", 1, first[:2] + (None, ("state", (4,))), other)), three)
        # b stands ahead of a, but is not kept, or it is not dropped.
        self.check_wrong("state", (0,), ((0, 3), ("both", 1, ("state", (3,)), other)), three)
        self.check_wrong("state", (1,), ((0, 3), ("both", 0, ("both", 3, None, ("state", (0,))), ("state", (3,)))), three)

    def test_the_first_of_several_nodes(self):
        wrong = ("state", (0,))
        self.check_wrong("state", (0,), (KEPT, ("both", 0, ("state", (3,)), wrong)), LIST)
        self.check_wrong("state", (0, 1), (KEPT, ("both", 0, ("both", 1, TWO, ("state", (3,))), wrong)), LIST)
        self.check_wrong("state", (1,), (KEPT, ("both", 0, ONE, wrong)), LIST)
        self.check_wrong("check", (0, 0), (KEPT, ("both", 0, ("both", 1, ("both", 1, None, None), wrong[:1] + ((3,),)), wrong)), LIST)
        # "many" ahead of "check" and "state" at one node.
        self.check_wrong("many", (0,), ((0,), ("both", 0, ("both", 9, None, None), TREE[3])))
        self.check_wrong("many", (0,), ((0,), ("both", 0, ("state", (9,)), TREE[3])))

    def test_true_is_not_1(self):
        self.check_wrong("shape", -1, ((True,), None), LIST)
        self.check_wrong("shape", -1, ((0, True, 2), LIST_TREE), LIST)
        self.check_wrong("shape", -1, (KEPT, LIST_TREE[:2] + (("both", True) + ONE[2:], LIST_TREE[3])), LIST)
        self.check_wrong("shape", -1, (KEPT, LIST_TREE[:2] + (ONE[:3] + (("state", (False,)),), LIST_TREE[3])), LIST)


class ChanceTest(FaultCase):
    def setUp(self):
        self.lists = list(LISTS) + made_lists(80, most=6) + made_lists(60, seed=9, most=6, words="xy")

    def test_papers_as_returned(self):
        for items, checks in self.lists:
            for row in (checks, with_other_words(checks)):
                self.check_same(lets_keep(items, row, keep_paper(items, row)), len(fewest_kept(items, row)[0]))

    def test_whatever_is_accepted_has_the_least_number(self):
        chance = random.Random(3)
        found = {"right": 0, "wrong": 0}
        for items, checks in self.lists:
            paper = keep_paper(items, checks)
            for _ in range(15):
                thing = self.changed_paper(chance, items, checks, paper)
                due = slow_keep(items, checks, thing)
                if isinstance(due, tuple):
                    found["wrong"] = found["wrong"] + 1
                    self.check_fault(InvalidPaper(*due), lets_keep, items, checks, thing)
                else:
                    found["right"] = found["right"] + 1
                    self.check_same(lets_keep(items, checks, thing), due)
                    self.assertEqual(due, len(fewest_kept(items, checks)[0]))
        self.assertGreater(min(found.values()), 100)

    def changed_paper(self, chance, items, checks, paper):
        kept = chance.choice(fewest_kept(items, checks))
        if chance.random() < 0.2:
            kept = tuple([k for k in range(len(checks)) if chance.random() < 0.8])
        return kept, self.changed_node(chance, items, checks, paper[1])

    def changed_node(self, chance, items, checks, node):
        if chance.random() < 0.06:
            return chance.choice((None, ("state", chance.choice(all_states(items))), ("both", chance.randint(0, 6), node, node)))
        if node is None or node[0] == "state":
            return node
        one, other = [self.changed_node(chance, items, checks, inner) for inner in node[2:]]
        return (node[0], node[1], one, other) if chance.random() < 0.95 else (node[0], node[1], other, one)

    def test_papers_of_other_lists(self):
        for items, checks in self.lists[:20]:
            for others, row in self.lists[:20]:
                if others == items:
                    paper = keep_paper(others, row)
                    due = slow_keep(items, checks, paper)
                    if isinstance(due, tuple):
                        self.check_fault(InvalidPaper(*due), lets_keep, items, checks, paper)
                    else:
                        self.check_same(lets_keep(items, checks, paper), due)

    def test_arguments_stay_as_they_are_and_no_call_hangs_on_an_earlier_one(self):
        thing = [[0], ["state", [3]]]
        told = repr([TWICE, TREE, thing])
        for _ in range(2):
            with self.assertRaises(FaultError):
                lets_keep(ITEMS, TWICE, thing)
            self.check_same(lets_keep(ITEMS, TWICE, ((0,), TREE)), 1)
            self.check_fault(InvalidPaper("parts", (0,)), lets_keep, ITEMS, (FULL, NONE), ((0,), TREE))
        self.assertEqual(repr([TWICE, TREE, thing]), told)


if __name__ == "__main__":
    unittest.main()
