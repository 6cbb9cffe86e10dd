"""[8], [31], [52], [64]: what is promised over the whole program, for programs with several events of each kind."""

import unittest

from eventmakers import SMALL, made_event, places_of, servable
from faultcases import FaultCase
from firstfault.alikechecker import lets_alike
from firstfault.alikepapers import alike_paper
from firstfault.comparing import are_alike, are_equal, parting_state
from firstfault.contexts import context_paper, may_put_for
from firstfault.coming import may_come
from firstfault.dropping import checks_of, fewest_checks, may_drop
from firstfault.droppapers import drop_paper
from firstfault.errors import FaultError, InvalidEvent
from firstfault.fronting import fewest_at_all, may_front
from firstfault.keeping import fewest_kept, one_for_each_word
from firstfault.lists import idle_checks, regions, words_of_list
from firstfault.replaying import replayed
from firstfault.running import complaints_by, run
from firstfault.services import Service
from listmakers import index_sets, made_lists
from makers import (
    Maker, all_states, keys_of_checks, made_programs, slow_dropped, slow_equal, slow_run, slow_tolds, steps_by_key,
)
from samples import BAD, COINS, FULL, GOOD, ITEMS, LESS, NONE, TILL, coins

FIRST = (None, (0,))
MORE = ("set", "coins", ("+", COINS, 1))
SAY = ("say", COINS)
WORDS = ("put", "take", "turn", "come", "behind", "drop", "lean", "front", "call")


class LiveCase(FaultCase):
    def setUp(self):
        self.programs = [TILL, SMALL, coins(FULL, MORE, NONE, FULL, SAY), coins(SAY, FULL, MORE, FULL)]
        self.programs = self.programs + servable(made_programs(100, seed=51))

    def services(self, seed, many=20):
        """A service behind events by chance for each program."""
        maker = Maker(seed)
        for program in self.programs:
            service = Service(program)
            for _ in range(many):
                try:
                    service.go(made_event(maker, service.program))
                except InvalidEvent:
                    pass
            yield service


class PromiseTest(LiveCase):
    def test_several_events_of_each_kind(self):
        service = Service(coins(NONE, MORE, ("repeat", 1, (FULL, LESS)), SAY))
        promise = [run(service.first, state)[0] for state in all_states(ITEMS)]
        events = [
            ("behind", FIRST), ("put", (None, (3,)), GOOD), ("put", FIRST, ("repeat", 0, (BAD,))),
            ("come", (None, (3, 0, 0)), (None, (1,))),
            ("come", (None, (3,)), (None, (1,))), ("turn", (None, (0,)), ("repeat", -1, ())),
            ("turn", (None, (3,)), MORE), ("call", "a", (BAD, LESS)),
            ("put", ("a", (1,)), BAD), ("lean",), ("front",), ("drop", (("a", (0,)),)), ("take", FIRST),
            ("call", "b", (("call", "a"),)),
            ("put", FIRST, GOOD), ("front",), ("put", FIRST, GOOD), ("lean",), ("take", ("a", (0,))),
            ("put", (None, (2,)), GOOD),
            ("drop", ((None, (2,)),)), ("put", (None, (1,)), GOOD), ("turn", (None, (1,)), ("check", "b", ("=", 1, 1))),
            ("lean",),
        ]
        done = {}
        for event in events:
            if service.barred(event) is None:
                before = service.program
                service.go(event)
                done[event[0]] = done.get(event[0], 0) + 1
                self.assertEqual([run(service.program, state)[0] for state in all_states(ITEMS)], promise, event)
                self.assertIs(are_alike(before, service.program), True)
        self.assertEqual(sorted(done), sorted(WORDS))
        self.assertGreater(len(service), 15)

    def test_by_chance(self):
        done = {word: 0 for word in WORDS}
        for service in self.services(1):
            for event in service.log()[1:]:
                done[event[0]] = done[event[0]] + 1
            self.assertEqual(slow_tolds(service.program), slow_tolds(service.first))
            self.assertEqual([told for _, told in service.promise], slow_tolds(service.first))
            self.assertEqual(replayed(service.log()).program, service.program)
        self.assertGreater(min(done.values()), 9, done)

    def test_events_that_make_an_alike_program_whatever_the_promise_is(self):
        many = {word: 0 for word in ("come", "behind", "lean", "front")}
        maker = Maker(3)
        for service in self.services(2):
            for _ in range(12):
                event = made_event(maker, service.program)
                if event[0] in many and service.barred(event) is None:
                    many[event[0]] = many[event[0]] + 1
                    self.assertEqual(slow_tolds(service.tried(event)), slow_tolds(service.program))
                    if event[0] != "lean":
                        self.assertTrue(slow_equal(service.tried(event), service.program))
        self.assertGreater(min(many.values()), 4, many)

    def test_all_idle_checks_can_be_dropped_at_once(self):
        for service in self.services(4):
            idle = service.idle()
            if not idle:
                continue
            self.assertIs(may_drop(service.program, *idle), True)
            due = slow_dropped(service.program, idle)
            service.drop(*idle)
            self.check_same([service.program, service.idle()], [due, ()])

    def test_behind_lean_no_checks_can_be_dropped(self):
        for service in self.services(5):
            if service.barred(("lean",)) is None:
                service.lean()
            keys = keys_of_checks(service.program)
            for indexes in index_sets(len(keys))[1:]:
                gone = tuple([keys[k] for k in indexes])
                self.assertNotEqual(slow_tolds(slow_dropped(service.program, gone)), slow_tolds(service.program))
                self.check_same(service.barred(("drop", gone)), "parts")
            self.check_same(service.barred(("lean",)), "same")

    def test_alike_first_programs_and_the_same_present_one(self):
        maker = Maker(6)
        for service in self.services(7):
            other = Service(service.program)
            for _ in range(10):
                event = made_event(maker, service.program)
                reason = service.barred(event)
                self.check_same(other.barred(event), reason)
                if reason is None:
                    self.check_same(other.tried(event), service.tried(event))
                elif reason == "parts":
                    self.check_same(other.parting(event), service.parting(event))


class WholeTest(LiveCase):
    def test_alike_programs(self):
        for one in self.programs:
            for other in self.programs:
                if one[0] == other[0]:
                    parted = [state for state in all_states(one[0]) if slow_run(one, state)[0] != slow_run(other, state)[0]]
                    self.check_same(parting_state(one, other), parted[0] if parted else None)
                    self.assertIs(are_alike(one, other), parted == [])
                    self.assertIs(lets_alike(one, other, alike_paper(one, other)), parted == [])
                    more = tuple([("say", ("item", name)) for name, _, _ in one[0]])
                    longer = [row[:2] + (row[2] + more,) for row in (one, other)]
                    if parted == [] and not any(run(one, state)[0][1] for state in all_states(one[0])):
                        self.assertIs(are_alike(*longer), are_equal(one, other))

    def test_steps_in_every_program(self):
        for items, calls, steps in self.programs:
            for k in range(len(steps) + 1):
                may = slow_equal((items, calls, steps), (items, calls, steps[:k]))
                self.assertIs(may_put_for(items, calls, steps, steps[:k]), may)
                self.assertIs(context_paper(items, calls, steps, steps[:k]) is None, may)

    def test_the_fewest_checks(self):
        for program in self.programs:
            kept, _ = drop_paper(program)
            keys = checks_of(program)
            for indexes in index_sets(len(keys)):
                if len(indexes) < len(kept):
                    gone = [key for k, key in enumerate(keys) if k not in indexes]
                    self.assertNotEqual(slow_tolds(slow_dropped(program, gone)), slow_tolds(program))
            self.assertIn(kept, fewest_checks(program))

    def test_all_checks_in_front(self):
        for program in self.programs:
            late = [state for state in all_states(program[0]) if all(slow_run(program, state)[0])]
            self.assertIs(may_front(program), late == [])
            keys = [key for key in keys_of_checks(program) if complaints_by(program, key)]
            if program[2]:
                self.assertIs(all(may_come(program, key, FIRST) for key in keys), late == [])
            if not late:
                self.assertEqual(fewest_at_all(program), len(set([word for _, word in slow_tolds(program)]) - {None}))

    def test_each_complaint_has_just_one_check(self):
        for program in self.programs:
            found = [(state, key) for key in keys_of_checks(program) for state in complaints_by(program, key)]
            due = [state for state in all_states(program[0]) if slow_run(program, state)[0][1] is not None]
            self.assertEqual(sorted([state for state, _ in found]), due)

    def test_a_list_tells_what_the_program_of_its_checks_does(self):
        for items, checks in made_lists(100, seed=13):
            program = (items, (), checks)
            words = [word for _, word in slow_tolds(program)]
            self.assertEqual(words_of_list(items, checks), tuple(sorted(set(words) - {None})))
            self.assertEqual(regions(items, checks), tuple([complaints_by(program, key) for key in checks_of(program)]))
            idle = tuple([(None, (k,)) for k in idle_checks(items, checks)])
            self.check_same(Service(program).idle(), idle)
            due = [tuple([(None, (k,)) for k in kept]) for kept in fewest_kept(items, checks)]
            self.check_same(fewest_checks(program), tuple(due))
            self.assertIs(are_alike(program, (items, (), one_for_each_word(items, checks))), True)

    def test_no_call_changes_a_program(self):
        told = repr(self.programs)
        for program in self.programs:
            places = places_of(program)
            steps = steps_by_key(program)
            for key in list(steps) + places[:3]:
                for function in (may_drop, complaints_by):
                    try:
                        function(program, key)
                    except FaultError:
                        pass
        self.assertEqual(repr(self.programs), told)


if __name__ == "__main__":
    unittest.main()
