"""[9], [45]: drop papers and their checker."""

import itertools
import random
import unittest

from faultcases import FaultCase
from firstfault.dropchecker import lets_drop
from firstfault.droppapers import drop_paper
from firstfault.dropping import checks_of, fewest_checks
from firstfault.errors import FaultError, InvalidPaper
from makers import all_states, keys_of_checks, made_programs, rebuilt, slow_alike, slow_dropped, slow_run
from samples import (
    BAD, BIG, BOOLS, COINS, CONDITIONS, FULL, GOOD, INTEGERS, ITEMS, JUNK, LESS, NAMES, NESTED, NONE, NO_PLACES, STEPS,
    TILL, coins, with_wrong_length,
)

SAY = ("say", COINS)
SAME = ("check", "none", ("<", 1, COINS))
TWICE = (ITEMS, (), (SAME, NONE, LESS))
LOW = ("<", COINS, 3)
ABA = coins(("check", "a", LOW), ("check", "b", LOW), ("check", "a", LOW))
FIRST, SECOND, THIRD = (None, (0,)), (None, (1,)), (None, (2,))
INNER = (None, (1, 0, 0))
NOTHING = ("state", (3,))
# What the till keeps, and a tree for it: to drop any check parts it at once.
KEPT = (FIRST, INNER)
TREE = ("check", FIRST, ("check", INNER, (), ("state", (0,))), ("state", (4,)))


def slow_node(program, many, node, taken, gone, count):
    """Return what is wrong with a node, or in it, as (word, n), or None; count has the number of those before."""
    n = count[0]
    count[0] = n + 1
    if not isinstance(node, tuple):
        return "shape", n
    if node == ():
        return ("few", n) if len(taken) < many else None
    if len(node) == 2 and node[0] == "state":
        return None if slow_state(program, node[1], taken, gone) else ("state", n)
    if len(node) != 4 or node[0] != "check":
        return "shape", n
    left = [repr(key) for key in keys_of_checks(program) if key not in taken + gone]
    if repr(node[1]) not in left:
        return "check", n
    wrong = slow_node(program, many, node[2], taken + [node[1]], gone, count)
    return wrong or slow_node(program, many, node[3], taken, gone + [node[1]], count)


def slow_state(program, state, taken, gone):
    if repr(state) not in [repr(row) for row in all_states(program[0])]:
        return False
    # Dropped checks are made to hold; so the keys stay.
    left = rebuilt(program, lambda key, step: (step[:2] + (("=", 0, 0),) if key in gone else step,))
    told, _, failed, _ = slow_run(left, state)
    return (failed is None or failed in taken) and told != slow_run(program, state)[0]


def slow_paper(program, thing):
    """Return what lets_drop has to return for any value, or the fields of what it has to raise."""
    if not isinstance(thing, tuple) or len(thing) != 2 or not isinstance(thing[0], tuple):
        return "shape", -1
    keys = keys_of_checks(program)
    places = [[repr(key) for key in keys].index(repr(part)) if repr(part) in [repr(key) for key in keys] else -1
              for part in thing[0]]
    if -1 in places or places != sorted(set(places)):
        return "kept", -1
    if not slow_alike(program, slow_dropped(program, [key for key in keys if key not in thing[0]])):
        return "alike", -1
    return slow_node(program, len(places), thing[1], [], [], [0]) or len(places)


class LetsDropTest(FaultCase):
    def check_wrong(self, word, at, thing, program=TILL):
        self.check_fault(InvalidPaper(word, at), lets_drop, program, thing)
        self.assertEqual(slow_paper(program, thing), (word, at))

    def test_example(self):
        tree = ("check", (None, (0,)), (), ("check", (None, (1,)), (), ("state", (0,))))
        self.check_same(lets_drop(TWICE, (((None, (0,)),), tree)), 1)

    def test_papers_that_are_right(self):
        self.check_same(lets_drop(TILL, (KEPT, TREE)), 2)
        self.check_same(lets_drop(thing=(KEPT, TREE), program=TILL), 2)
        # In another order, with checks decided that need not be.
        other = ("check", INNER, ("check", FIRST, (), ("state", (4,))), ("state", (1,)))
        self.check_same(lets_drop(TILL, (KEPT, other)), 2)
        later = ("check", FIRST, ("check", INNER, (), ("state", (1,))), ("check", INNER, ("state", (4,)), ("state", (4,))))
        self.check_same(lets_drop(TILL, (KEPT, later)), 2)
        tree = ("check", FIRST, (), ("check", SECOND, ("state", (3,)), ("check", THIRD, (), ("state", (4,)))))
        for kept in ((FIRST,), (THIRD,)):
            self.check_same(lets_drop(ABA, (kept, tree)), 1)

    def test_no_checks_are_needed(self):
        for program in (coins(), coins(SAY), coins(GOOD), NESTED):
            self.check_same(drop_paper(program), ((), ()))
            self.check_same(lets_drop(program, ((), ())), 0)

    def test_shape(self):
        for thing in JUNK + INTEGERS + NAMES + STEPS + CONDITIONS:
            if not (isinstance(thing, tuple) and len(thing) == 2 and isinstance(thing[0], tuple)):
                self.check_wrong("shape", -1, thing)
            if not isinstance(thing, tuple):
                self.check_wrong("shape", -1, (thing, TREE))
        for thing in with_wrong_length((KEPT, TREE)) + [(list(KEPT), TREE), ({}, TREE), (None, None), ("", ())]:
            self.check_wrong("shape", -1, thing)

    def test_kept(self):
        for key in NO_PLACES + JUNK + INTEGERS + NAMES + STEPS:
            self.check_wrong("kept", -1, ((key,), TREE))
            self.check_wrong("kept", -1, (KEPT + (key,), None))
            self.check_wrong("kept", -1, ((key,) + KEPT, None))
        for kept in (
            KEPT[::-1], KEPT + KEPT, KEPT + KEPT[:1], (FIRST, FIRST), (SECOND,), (FIRST, SECOND, INNER), (THIRD,), KEPT[0],
            ((None, (False,)), INNER), (FIRST, (None, (True, 0, 0))), (FIRST, (None, (1, False, 0))), (list(FIRST), INNER),
            (FIRST, (None, (1, 0, 1))), (FIRST, (None, (3,))), (FIRST, ("none", (0,))),
        ):
            self.check_wrong("kept", -1, (kept, TREE))
            # Ahead of what is wrong with the tree.
            self.check_wrong("kept", -1, (kept, None))

    def test_not_alike(self):
        for kept in ((), (FIRST,), (INNER,)):
            self.check_wrong("alike", -1, (kept, TREE))
            self.check_wrong("alike", -1, (kept, None))
        for kept in ((), (SECOND,)):
            self.check_wrong("alike", -1, (kept, ()), ABA)
        self.check_wrong("alike", -1, ((SECOND, THIRD), ()), ABA)

    def test_more_than_the_fewest(self):
        tree = ("check", FIRST, (), ("check", SECOND, (), ("state", (0,))))
        self.check_wrong("few", 1, ((FIRST, SECOND), tree), TWICE)
        self.check_wrong("few", 0, ((FIRST, SECOND), ()), TWICE)
        tree = ("check", FIRST, ("check", SECOND, (), ()), ())
        self.check_wrong("few", 3, ((FIRST, SECOND), tree), TWICE)
        self.check_wrong("state", 3, ((FIRST, SECOND), tree[:2] + (("check", SECOND, (), ("state", (0,))), ())), TWICE)

    def test_shape_of_a_node(self):
        wrong = (
            None, True, 0, "", "state", [], [()], ((),), (None,), ("state",), ("state", (4,), 0), ["state", (4,)],
            ("few", (4,)), ("check", FIRST), ("check", FIRST, ()), ("check", FIRST, (), (), ()), ["check", FIRST, (), ()],
            ("both", FIRST, (), ()), ("state", FIRST, (), ()), ("check", (4,)), (True, (4,)), ("State", (4,)), (("state",), 4),
            (0, 0, 0, 0), (1, 2, 3), ((), ()), ((), (), (), ()),
        )
        first = TREE[2]
        for node in wrong:
            self.check_wrong("shape", 0, (KEPT, node))
            self.check_wrong("shape", 1, (KEPT, TREE[:2] + (node, TREE[3])))
            self.check_wrong("shape", 2, (KEPT, TREE[:2] + (first[:2] + (node, first[3]), TREE[3])))
            self.check_wrong("shape", 3, (KEPT, TREE[:2] + (first[:3] + (node,), TREE[3])))
            self.check_wrong("shape", 4, (KEPT, TREE[:3] + (node,)))
            # The first of two.
            self.check_wrong("shape", 3, (KEPT, TREE[:2] + (first[:3] + (node,), node)))
            self.check_wrong("shape", 1, (KEPT, TREE[:2] + (node, node)))

    def test_few(self):
        first = TREE[2]
        self.check_wrong("few", 0, (KEPT, ()))
        self.check_wrong("few", 1, (KEPT, TREE[:2] + ((), TREE[3])))
        self.check_wrong("few", 3, (KEPT, TREE[:2] + (first[:3] + ((),), TREE[3])))
        self.check_wrong("few", 4, (KEPT, TREE[:3] + ((),)))
        # More than kept has are enough, too.
        tree = ("check", FIRST, ("check", SECOND, (), ()), ("check", SECOND, (), ("state", (0,))))
        self.check_same(lets_drop(TWICE, ((FIRST,), tree)), 1)

    def test_state(self):
        first = TREE[2]
        for state in JUNK + INTEGERS + NAMES + ((5,), (-1,), (BIG,), (4, 4), [4], (True,), (False,), ("4",), ((4,),), 4):
            self.check_wrong("state", 0, (KEPT, ("state", state)))
            self.check_wrong("state", 4, (KEPT, TREE[:3] + (("state", state),)))
            self.check_wrong("state", 3, (KEPT, TREE[:2] + (first[:3] + (("state", state),), TREE[3])))
        # Told is the same: FIRST is dropped, but no run comes to it that it fails.
        for k in (0, 1, 2, 3):
            self.check_wrong("state", 4, (KEPT, TREE[:3] + (("state", (k,)),)))
        for k in (2, 3, 4):
            self.check_wrong("state", 3, (KEPT, TREE[:2] + (first[:3] + (("state", (k,)),), TREE[3])))
        for k in range(5):
            self.check_wrong("state", 0, (KEPT, ("state", (k,))))

    def test_state_at_which_an_open_check_fails(self):
        # SECOND fails there behind FIRST, and is not decided.
        tree = ("check", FIRST, (), ("state", (0,)))
        self.check_wrong("state", 2, ((FIRST,), tree), TWICE)
        self.check_same(lets_drop(TWICE, ((FIRST,), ("check", FIRST, (), ("state", (1,))))), 1)
        tree = ("check", FIRST, (), ("state", (3,)))
        self.check_wrong("state", 2, ((FIRST,), tree), ABA)
        # With SECOND kept another word comes; THIRD, which stays open, is not come to.
        tree = ("check", SECOND, ("check", FIRST, (), ("state", (3,))), ("check", FIRST, (), ("check", THIRD, (), NOTHING)))
        self.check_wrong("few", 5, ((FIRST, THIRD), tree), ABA)
        self.check_same(lets_drop(ABA, ((FIRST,), ("check", SECOND, (), tree[3]))), 1)
        tree = ("check", FIRST, (), ("check", SECOND, NOTHING, ("check", THIRD, (), NOTHING)))
        self.check_same(lets_drop(ABA, ((FIRST,), tree)), 1)

    def test_check(self):
        first = TREE[2]
        for key in NO_PLACES + JUNK + INTEGERS + NAMES + STEPS + (SECOND, THIRD, (None, (1, 0, 1))) + BOOLS:
            if key != INNER:
                self.check_wrong("check", 0, (KEPT, TREE[:1] + (key,) + TREE[2:]))
                self.check_wrong("check", 1, (KEPT, TREE[:2] + (first[:1] + (key,) + first[2:], TREE[3])))
                # Ahead of what is in it.
                self.check_wrong("check", 0, (KEPT, TREE[:1] + (key, None, None)))
        # Decided already: kept, or dropped.
        self.check_wrong("check", 1, (KEPT, ("check", FIRST, ("check", FIRST, (), ()), TREE[3])))
        self.check_wrong("check", 4, (KEPT, TREE[:3] + (("check", FIRST, (), ()),)))
        later = ("check", INNER, (), ("check", INNER, (), ("state", (0,))))
        self.check_wrong("check", 3, (KEPT, TREE[:2] + (later, TREE[3])))

    def test_true_is_not_1(self):
        program = coins(SAY, FULL)
        self.check_same(lets_drop(program, ((SECOND,), ("check", SECOND, (), ("state", (4,))))), 1)
        self.check_wrong("kept", -1, (((None, (True,)),), ("check", SECOND, (), ("state", (4,)))), program)
        self.check_wrong("check", 0, ((SECOND,), ("check", (None, (True,)), (), ("state", (4,)))), program)
        program = coins(("check", "a", ("not", ("in", ((1,),)))))
        self.check_same(lets_drop(program, ((FIRST,), ("check", FIRST, (), ("state", (1,))))), 1)
        self.check_wrong("state", 2, ((FIRST,), ("check", FIRST, (), ("state", (True,)))), program)

    def test_exchanged_and_deeper_nodes(self):
        first = TREE[2]
        self.check_wrong("state", 1, (KEPT, TREE[:2] + (TREE[3], first)))
        self.check_wrong("state", 2, (KEPT, TREE[:2] + (first[:2] + (first[3], first[2]), TREE[3])))
        self.check_wrong("check", 2, (KEPT, ("check", INNER, TREE, ("state", (0,)))))
        self.check_wrong("state", 2, (KEPT, ("check", INNER, ("check", FIRST, ("state", (4,)), ()), ("state", (0,)))))
        self.check_wrong("few", 3, (KEPT, ("check", INNER, ("check", FIRST, (), ()), ("state", (0,)))))

    def test_papers_of_another_program(self):
        others = [coins(FULL), coins(NONE, FULL), TWICE, ABA, NESTED, coins(), coins(FULL, FULL)]
        for program, other in itertools.permutations([TILL] + others, 2):
            due = slow_paper(program, drop_paper(other))
            if isinstance(due, tuple):
                self.check_wrong(*due, drop_paper(other), program)
            else:
                self.check_same(lets_drop(program, drop_paper(other)), due)


class DropPaperTest(FaultCase):
    def check_paper(self, program):
        kept, _ = paper = drop_paper(program)
        self.assertIn(kept, fewest_checks(program))
        self.check_same(lets_drop(program, paper), len(kept))
        self.assertEqual(slow_paper(program, paper), len(kept))

    def test_papers(self):
        self.check_paper(TILL)
        self.check_paper(TWICE)
        self.check_paper(ABA)
        self.check_paper(coins(FULL))
        self.check_paper(coins(FULL, FULL, BAD, SAY, BAD))
        self.check_paper(coins(*[("check", word, ("<", COINS, k)) for k, word in ((4, "a"), (3, "b"), (2, "a"), (1, "b"))] * 2))
        self.check_paper(coins(("call", "a"), SAY, ("call", "a"), FULL, calls=(("a", (NONE, LESS)), ("b", (BAD,)))))
        self.check_same(drop_paper(program=coins(FULL)), ((FIRST,), ("check", FIRST, (), ("state", (4,)))))

    def test_chance(self):
        for program in made_programs(300) + [one[:2] + (one[2] + one[2],) for one in made_programs(80, seed=3)]:
            self.check_paper(program)

    def test_what_is_accepted_has_the_fewest(self):
        chance = random.Random(2)
        found = {"right": 0, "wrong": 0}
        for program in [TILL, TWICE, ABA] * 20 + [one[:2] + (one[2] + one[2],) for one in made_programs(60, seed=6)]:
            keys = keys_of_checks(program)
            paper = drop_paper(program)
            nodes = [(), ("state", chance.choice(all_states(program[0]))), paper[1], None]
            for _ in range(25):
                thing = self.changed_paper(chance, program, keys, paper, nodes)
                due = slow_paper(program, thing)
                if isinstance(due, tuple):
                    found["wrong"] = found["wrong"] + 1
                    self.check_fault(InvalidPaper(*due), lets_drop, program, thing)
                else:
                    found["right"] = found["right"] + 1
                    self.check_same(lets_drop(program, thing), due)
                    self.assertEqual(due, len(fewest_checks(program)[0]))
        self.assertGreater(min(found.values()), 100)

    def changed_paper(self, chance, program, keys, paper, nodes):
        kept = tuple([key for key in keys if chance.random() < 0.6]) if chance.random() < 0.3 else paper[0]
        if chance.random() < 0.2:
            kept = chance.choice(fewest_checks(program))
        return kept, self.changed_node(chance, keys, paper[1], nodes)

    def changed_node(self, chance, keys, node, nodes):
        if chance.random() < 0.1:
            return chance.choice(nodes)
        if chance.random() < 0.1 and keys:
            return "check", chance.choice(keys), node, node
        if len(node) != 4:
            return node
        one, other = [self.changed_node(chance, keys, inner, nodes) for inner in node[2:]]
        return (node[0], node[1], one, other) if chance.random() < 0.9 else (node[0], node[1], other, one)

    def test_arguments_stay_as_they_are_and_no_call_hangs_on_an_earlier_one(self):
        programs = [TILL, TWICE, ABA] + made_programs(40)
        told = repr(programs)
        first = [drop_paper(program) for program in programs]
        self.assertEqual([drop_paper(program) for program in programs[::-1]][::-1], first)
        thing = [[FIRST], ["state", [4]]]
        with self.assertRaises(FaultError):
            lets_drop(TILL, thing)
        self.check_same([repr(programs), thing], [told, [[FIRST], ["state", [4]]]])
        self.assertEqual(checks_of(TILL), KEPT)


if __name__ == "__main__":
    unittest.main()
