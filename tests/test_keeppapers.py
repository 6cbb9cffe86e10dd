"""[42]: keep papers as they are returned."""

import unittest

from faultcases import FaultCase
from firstfault.keeping import fewest_kept
from firstfault.keeppapers import keep_paper
from keepslowly import slow_keep
from listmakers import ALWAYS, EIGHT, GRID, LIST, LISTS, NEVER, TWICE, made_lists, with_other_words
from samples import FULL, ITEMS, NONE, SIX


class KeepPaperTest(FaultCase):
    def check_paper(self, items, checks):
        kept, _ = paper = keep_paper(items, checks)
        self.assertIs(paper.__class__, tuple)
        self.assertIn(kept, fewest_kept(items, checks))
        self.assertEqual(slow_keep(items, checks, paper), len(kept), (items, checks))

    def test_lists_without_a_check_that_is_needed(self):
        for checks in ((), (NEVER,), (NEVER, NEVER)):
            self.check_same(keep_paper(ITEMS, checks), ((), None))
            self.check_same(keep_paper(SIX, checks), ((), None))

    def test_one_check(self):
        self.check_same(keep_paper(checks=(FULL,), items=ITEMS), ((0,), ("both", 0, None, ("state", (4,)))))
        self.check_paper(ITEMS, (ALWAYS,))

    def test_several_checks_with_distinct_and_with_equal_words(self):
        for items, checks in LISTS:
            self.check_paper(items, checks)
        self.check_paper(ITEMS, (NEVER,) + TWICE + (NEVER,))
        self.check_paper(ITEMS, (FULL, NONE) * 4)
        self.check_paper(ITEMS, LIST + LIST[::-1])
        self.check_paper(SIX, GRID + GRID[::-1])
        self.check_paper(ITEMS, EIGHT[:4] + EIGHT[:4][::-1])

    def test_what_the_fewest_are_not_ahead_of_all_others(self):
        # Nothing is lost yet where an open check ahead may be dropped.
        checks = (("check", "b", FULL[2]), ("check", "a", NONE[2]), ("check", "b", NONE[2]), ("check", "a", FULL[2]))
        self.check_paper(ITEMS, checks)
        self.check_paper(ITEMS, checks[::-1])

    def test_chance(self):
        for items, checks in made_lists(120) + made_lists(80, seed=9, words="xy"):
            self.check_paper(items, checks)
            self.check_paper(items, with_other_words(checks))

    def test_arguments_stay_as_they_are_and_no_call_hangs_on_an_earlier_one(self):
        rows = list(LISTS) + made_lists(40)
        told = repr(rows)
        first = [keep_paper(*row) for row in rows]
        self.check_same([[keep_paper(*row) for row in rows[::-1]][::-1], repr(rows)], [first, told])


if __name__ == "__main__":
    unittest.main()
