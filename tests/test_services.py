"""[2], [9], [58] to [63]: live programs under a promise."""

import unittest

from eventmakers import KEY, SAY, SMALL, made_event, servable
from faultcases import FaultCase
from firstfault.comparing import words_told
from firstfault.dropping import fewest_checks
from firstfault.errors import FaultError, InvalidEvent, InvalidPaper, InvalidState, NothingToUndo, NotUsable
from firstfault.events import is_event
from firstfault.fronting import may_front
from firstfault.programclasses import Program
from firstfault.replaying import replayed
from firstfault.running import run
from firstfault.services import Service
from firstfault.terms import Count
from makers import Maker, all_states, keys_of_checks, made_programs, slow_run, slow_tolds
from samples import (
    BAD, BIG, BOOLS, COINS, FULL, GOOD, INTEGERS, ITEMS, JUNK, LESS, NAMES, NESTED_KEYS, NONE, NO_PLACES, PLACES, SIX,
    STEPS, TILL, coins,
)

FIRST, SECOND, THIRD = [(None, (k,)) for k in range(3)]
INNER = (None, (1, 0, 0))
NOTHING = ("repeat", 0, ())
SAME = ("turn", FIRST, FULL)
PUT = ("put", THIRD, GOOD)
COME = ("come", INNER, FIRST)
WRONG = ("take", FIRST)
NO_STATES = JUNK + INTEGERS + NAMES + STEPS + (
    (5,), (-1,), (BIG,), (2, 2), [2], (True,), (False,), ("2",), ((2,),), (None,), ([2],), slice(1), Count(1),
)


class ServiceCase(FaultCase):
    def look(self, service):
        """What can be asked of a service, but for its counts."""
        return repr([
            service.first, service.program, service.promise, service.checks, service.log(), str(service), len(service),
            service.table(), service.idle(), service.fewest(), service.words(), service.can_front(),
            [service[state] for state, _ in service.promise], service.barred(("lean",)), service.barred(WRONG),
        ])

    def check_event(self, event, reason, function, *given):
        with self.assertRaises(InvalidEvent) as caught:
            function(*given)
        self.check_same([caught.exception.event, caught.exception.reason], [event, reason])


class MakingTest(ServiceCase):
    def test_example(self):
        service = Service(TILL)
        self.check_same([service.promise[1], service.front(), service.checks], [((1,), ((), "none")), 2, ((None, (0,)), (None, (1,)))])
        self.check_event(("take", (None, (1,))), "parts", service.take, (None, (1,)))

    def test_class_values(self):
        self.check_same([Service.MOST, Service.STEPS, Service.CHECKS, Service.CALLS], [40, 14, 8, 2])
        service = Service(program=TILL)
        self.check_same([service.MOST, service.STEPS, service.CHECKS, service.CALLS], [40, 14, 8, 2])

    def test_values_that_are_no_programs(self):
        for thing in JUNK + INTEGERS + STEPS + NAMES + (Program(ITEMS, ()), Service(TILL), list(TILL), TILL[:2], TILL + ((),), {}):
            self.check_fault(InvalidPaper("shape", -1), Service, thing)
        self.check_fault(InvalidPaper("items", -1), Service, ((), (), ()))
        self.check_fault(InvalidPaper("item", 0), Service, ((("a", 1, 0),), (), ()))
        self.check_fault(InvalidPaper("call", 1), Service, coins(calls=(("a", ()), ("a", ()))))
        self.check_fault(InvalidPaper("name", FIRST), Service, coins(("call", "a")))
        self.check_fault(InvalidPaper("part", ("a", (0,))), Service, coins(calls=(("a", (("say", ("item", "a")),)),)))

    def test_programs_that_are_too_great(self):
        calls = (("a", (SAY, SAY)), ("b", ()))
        for program in (
            coins(*[NOTHING] * 14), coins(*[NOTHING] * 12, calls=calls), coins(*[GOOD] * 8),
            coins(*[GOOD] * 7, calls=(("a", (BAD,)),)), coins(calls=calls), coins(("repeat", 1, (SAY,) * 13)),
        ):
            self.check_same(Service(program).program, program)
        for program in (
            coins(*[NOTHING] * 15), coins(*[NOTHING] * 13, calls=calls), coins(*[GOOD] * 9),
            coins(*[GOOD] * 8, calls=(("a", (BAD,)),)), coins(calls=calls + (("c", ()),)), coins(("repeat", 1, (SAY,) * 14)),
            coins(*[FULL] * 30),
        ):
            self.check_fault(NotUsable("many", -1), Service, program)
        # The errors of the checker come first.
        self.check_fault(InvalidPaper("name", (None, (20,))), Service, coins(*[NOTHING] * 20, ("call", "a")))
        self.check_fault(InvalidPaper("call", 1), Service, coins(calls=(("a", ()),) * 3))

    def test_properties(self):
        for program in [TILL, SMALL, coins(), (SIX, (), (BAD,))] + servable(made_programs(30, seed=31)):
            service = Service(program)
            promise = tuple([(state, slow_run(program, state)[0]) for state in all_states(program[0])])
            self.check_same([service.first, service.program, service.promise], [program, program, promise])
            self.check_same(service.checks, tuple(keys_of_checks(program)))
            for name in ("first", "program", "promise", "checks"):
                with self.assertRaises(AttributeError):
                    setattr(service, name, ())

    def test_behind_each_event(self):
        service = Service(TILL)
        promise = service.promise
        for event in (PUT, COME, ("call", "a", (BAD,)), ("front",), ("lean",)):
            due = service.tried(event) if service.barred(event) is None else service.program
            if service.barred(event) is None:
                service.go(event)
            self.check_same([service.first, service.program, service.promise], [TILL, due, promise])
            self.check_same(service.checks, tuple(keys_of_checks(due)))
        self.assertGreater(len(service), 3)


class MethodsTest(ServiceCase):
    def calls(self):
        """For each method: its name, its arguments by name, the event, and a program in which it is possible."""
        behind = coins(NONE, ("set", "coins", ("+", COINS, 1)))
        return (
            ("put", {"place": THIRD, "step": GOOD}, PUT, TILL), ("take", {"key": FIRST}, ("take", FIRST), coins(GOOD)),
            ("turn", {"key": FIRST, "step": FULL}, SAME, TILL), ("come", {"key": INNER, "place": FIRST}, COME, TILL),
            ("behind", {"key": FIRST}, ("behind", FIRST), behind), ("lean", {}, ("lean",), coins(FULL, FULL)),
            ("front", {}, ("front",), TILL), ("add_call", {"name": "a", "steps": (BAD,)}, ("call", "a", (BAD,)), TILL),
        )

    def test_by_position_and_by_name(self):
        for name, given, event, program in self.calls():
            due = Service(program).tried(event)
            service, other, third, fourth = [Service(program) for _ in range(4)]
            answers = [getattr(service, name)(*given.values()), getattr(other, name)(**given)]
            answers = answers + [third.go(event=event), fourth(event=event)]
            self.check_same(answers, [len(keys_of_checks(due))] * 4)
            for one in (service, other, third, fourth):
                self.check_same([one.program, one.log(), one.counts()], [due, (("service", program), event), (1, 1)])
            self.check_same([Service(program)(event), Service(program).go(event)], answers[:2])

    def test_drop(self):
        service = Service(coins(GOOD, FULL, GOOD))
        self.check_same(service.drop(FIRST, THIRD), 1)
        self.check_same(service.log()[1:], (("drop", (FIRST, THIRD)),))
        self.check_event(("drop", ()), "shape", service.drop)
        self.check_event(("drop", (1, [2])), "shape", service.drop, 1, [2])
        self.check_event(("drop", (FIRST, FIRST)), "key", service.drop, FIRST, FIRST)

    def test_any_values(self):
        service = Service(TILL)
        for thing in JUNK + INTEGERS + NAMES + (Count(1), {}, service):
            self.check_event(("put", thing, SAY), "shape", service.put, thing, SAY)
            self.check_event(("put", KEY, thing), "shape", service.put, KEY, thing)
            self.check_event(("take", thing), "shape", service.take, thing)
            self.check_event(("turn", thing, thing), "shape", service.turn, thing, thing)
            self.check_event(("come", KEY, thing), "shape", service.come, KEY, thing)
            self.check_event(("behind", thing), "shape", service.behind, thing)
            self.check_event(("drop", (KEY, thing)), "shape", service.drop, KEY, thing)
            if thing != ():
                self.check_event(("call", "a", thing), "shape", service.add_call, "a", thing)
            if not isinstance(thing, str) or not thing.isalpha() or thing.upper() == thing or len(thing) > 8:
                self.check_event(("call", thing, ()), "shape", service.add_call, thing, ())
            self.check_event(thing, "shape", service.go, thing)
            self.check_event(thing, "shape", service, thing)
        self.assertEqual([service.program, len(service)], [TILL, 0])

    def test_the_very_objects(self):
        service = Service(TILL)
        key, step = [0], {}
        with self.assertRaises(InvalidEvent) as caught:
            service.put(key, step)
        self.assertIs(caught.exception.event[1], key)
        self.assertIs(caught.exception.event[2], step)
        event = ["lean"]
        for function in (service.go, service, service.tried, service.do_all, service.parting):
            with self.assertRaises(InvalidEvent) as caught:
                function(event)
            self.assertIs(caught.exception.event, event)
        event = ("turn", FIRST, FULL)
        service.go(event)
        self.assertIs(service.log()[1], event)
        self.assertIs(service.undo(), event)


class AskingTest(ServiceCase):
    def test_promises_by_their_states(self):
        service = Service(TILL)
        for state in all_states(ITEMS):
            self.check_same(service[state], slow_run(TILL, state)[0])
        service.front()
        for state in all_states(ITEMS):
            self.check_same(service[state], slow_run(TILL, state)[0])
        other = Service((SIX, (), (("say", ("-", ("item", "a"), ("item", "b"))),)))
        self.check_same(other[(1, 5)], ((-4,), None))

    def test_any_other_value(self):
        service = Service(TILL)
        for state in NO_STATES:
            self.check_fault(InvalidState(state), service.__getitem__, state)
        with self.assertRaises(InvalidState):
            service[0]
        with self.assertRaises(TypeError):
            iter(service)

    def test_keys(self):
        service = Service(SMALL)
        for key in NESTED_KEYS[:-1]:
            self.assertIs(key in service, True)
        for key in NESTED_KEYS[-1:] + NO_PLACES + PLACES + JUNK + INTEGERS + NAMES + BOOLS + (Count(1), service, {}):
            self.assertIs(key in service, False)
        till = Service(TILL)
        self.check_same([(None, (3,)) in till, till.put((None, (3,)), NOTHING), (None, (3,)) in till], [False, 2, True])

    def test_length(self):
        service = Service(TILL)
        for k in range(5):
            self.check_same(len(service), k)
            service.go(SAME)
        self.check_event(WRONG, "parts", service.go, WRONG)
        self.check_same(len(service), 5)
        service.undo()
        self.check_same(len(service), 4)

    def test_equal(self):
        one, other = Service(TILL), Service(TILL)
        self.assertIs(one == other, True)
        one.go(SAME)
        self.assertIs(one == other, False)
        self.assertIs(one != other, True)
        other.turn(FIRST, FULL)
        self.assertIs(one == other, True)
        other.barred(None)
        self.check_event(None, "shape", other.go, None)
        self.assertIs(one == other, True)
        one.go(PUT)
        one.undo()
        self.assertIs(one == other, True)
        # The same program, but by other events, or from another one.
        third = Service(TILL)
        third.turn(INNER, NONE)
        self.assertEqual(third.program, one.program)
        self.assertIs(third == one, False)
        self.assertIs(Service(coins(FULL, GOOD)) == Service(coins(FULL)), False)
        shorter = Service(coins(FULL, GOOD))
        shorter.take(SECOND)
        self.assertEqual(shorter.program, Service(coins(FULL)).program)
        self.assertIs(shorter == Service(coins(FULL)), False)

    def test_equal_to_no_other_value(self):
        service = Service(TILL)
        for thing in JUNK + INTEGERS + (service.log(), TILL, str(service), Program(ITEMS, TILL[2]), Count(1), {}, object()):
            self.assertIs(service == thing, False)
            self.assertIs(thing == service, False)
            self.assertIs(service != thing, True)


class SeveralTest(ServiceCase):
    def test_tried(self):
        service = Service(TILL)
        told = self.look(service)
        self.check_same(service.tried(), TILL)
        self.check_same(service.tried(SAME), TILL)
        both = service.tried(PUT, COME)
        other = Service(TILL)
        self.check_same([other.go(PUT), other.go(COME), other.program], [3, 3, both])
        self.check_event(WRONG, "parts", service.tried, PUT, WRONG, None)
        self.check_event(None, "shape", service.tried, PUT, None, WRONG)
        self.check_event(("take", (None, (3,))), "key", service.tried, ("take", (None, (3,))), PUT)
        self.check_same(service.tried(PUT, ("take", THIRD)), TILL)
        self.check_same([self.look(service), service.counts()], [told, (0, 0)])
        # From the present program on.
        service.go(PUT)
        self.check_same(service.tried(COME), both)

    def test_tried_counts_full_too(self):
        service = Service(TILL)
        self.check_same(service.tried(*[SAME] * 40), TILL)
        self.check_event(SAME, "full", service.tried, *[SAME] * 41)
        self.check_event(None, "shape", service.tried, *[SAME] * 40, None)
        service.do_all(*[SAME] * 39)
        self.check_same(service.tried(SAME), TILL)
        self.check_event(PUT, "full", service.tried, SAME, PUT)
        self.assertEqual(len(service), 39)

    def test_forty_events(self):
        service = Service(TILL)
        for k in range(40):
            self.check_same([service.go(SAME), len(service)], [2, k + 1])
        told = self.look(service)
        self.check_event(SAME, "full", service.go, SAME)
        self.check_event(("lean",), "full", service.lean)
        self.check_event(PUT, "full", service.do_all, PUT)
        self.check_event(None, "shape", service.go, None)
        self.assertEqual(self.look(service), told)
        service.undo()
        self.check_same(service.front(), 2)
        self.check_event(SAME, "full", service.go, SAME)

    def test_undo(self):
        service = Service(TILL)
        self.check_fault(NothingToUndo(0), service.undo)
        rows = []
        for event in (PUT, COME, ("call", "a", ()), ("front",)):
            rows.append((event, self.look(service)))
            service.go(event)
        for event, told in rows[::-1]:
            self.check_same(service.undo(), event)
            self.assertEqual(self.look(service), told)
        self.check_fault(NothingToUndo(0), service.undo)
        self.check_same([service.go(PUT), service.log()], [3, (("service", TILL), PUT)])

    def test_do_all(self):
        for keep in (False, True):
            service, other = Service(TILL), Service(TILL)
            self.check_same(service.do_all(PUT, COME, ("turn", SECOND, FULL), keep=keep), 3)
            for event in (PUT, COME, ("turn", SECOND, FULL)):
                other.go(event)
            self.assertTrue(service == other)
            self.check_same([service.program, service.counts()], [other.program, (1, 1)])
            self.check_same([service.do_all(keep=keep), len(service), service.counts()], [0, 3, (2, 2)])

    def test_do_all_with_a_failing_event_at_each_position(self):
        events = [PUT, COME, ("call", "a", (BAD,)), ("front",)]
        for before in ((), (SAME,), (SAME, SAME)):
            for k in range(5):
                for wrong, reason in (
                    (None, "shape"), (("drop", (("far", (0,)),)), "key"), (("turn", FIRST, ("call", "far")), "program"),
                ):
                    service = Service(TILL)
                    service.do_all(*before)
                    told = self.look(service)
                    row = events[:k] + [wrong] + events[k:]
                    self.check_event(wrong, reason, service.do_all, *row)
                    self.check_same([self.look(service), service.counts()], [told, (2, 2)])
                    with self.assertRaises(InvalidEvent) as caught:
                        service.do_all(*row, keep=True)
                    self.assertIs(caught.exception.event, wrong)
                    due = Service(TILL)
                    due.do_all(*before, *events[:k])
                    self.check_same([self.look(service), service.counts()], [self.look(due), (3, 3)])
                    self.assertTrue(service == due)

    def test_do_all_that_becomes_full(self):
        service = Service(TILL)
        service.do_all(*[SAME] * 38)
        self.check_event(SAME, "full", service.do_all, SAME, SAME, SAME)
        self.assertEqual(len(service), 38)
        with self.assertRaises(InvalidEvent):
            service.do_all(SAME, SAME, SAME, keep=True)
        self.assertEqual(len(service), 40)


class CountsTest(ServiceCase):
    def test_each_call_counts_once_in_both(self):
        service = Service(TILL)
        self.check_same(service.counts(), (0, 0))
        calls = [
            lambda: service.put(THIRD, GOOD), lambda: service.take(THIRD), lambda: service.turn(FIRST, FULL),
            lambda: service.come(INNER, FIRST),
            lambda: service.behind(FIRST), lambda: service.drop(FIRST), lambda: service.lean(), lambda: service.front(),
            lambda: service.add_call("a", ()), lambda: service.go(SAME), lambda: service(SAME), lambda: service.undo(),
            lambda: service.do_all(), lambda: service.do_all(SAME, SAME, SAME), lambda: service.do_all(SAME, None),
            lambda: service.do_all(SAME, None, keep=True), lambda: service.go(None), lambda: service(None),
            lambda: service.drop(),
            lambda: service.put(None, None), lambda: service.take(None), lambda: service.turn(None, None),
            lambda: service.come(None, None),
            lambda: service.behind(None), lambda: service.add_call(None, None),
        ]
        for k, call in enumerate(calls):
            try:
                call()
            except FaultError:
                pass
            self.check_same(service.counts(), (k + 1, k + 1))
        other = Service(TILL)
        self.check_fault(NothingToUndo(0), other.undo)
        self.check_same(other.counts(), (1, 1))

    def test_nothing_else_is_counted(self):
        service = Service(TILL)
        service.go(SAME)
        self.look(service)
        service.tried(SAME, PUT)
        for function in (service.tried, service.parting):
            self.check_event(None, "shape", function, None)
        service.barred(None), service.parting(SAME), service == service, FIRST in service, service.counts()
        self.check_fault(InvalidState(None), service.__getitem__, None)
        self.check_same(service.counts(), (1, 1))


class RefusedTest(ServiceCase):
    def test_what_is_refused_leaves_all_as_it_is(self):
        service = Service(TILL)
        service.do_all(PUT, ("call", "a", (BAD,)))
        told = self.look(service)
        for event in (
            None, ("take", ("far", (0,))), ("behind", (None, (3,))), ("put", ("far", (0,)), SAY),
            ("come", INNER, (None, (3,))),
            ("behind", INNER), ("call", "a", ()), ("put", FIRST, ("call", "far")),
            ("put", FIRST, ("repeat", 0, (SAY,) * 8)), WRONG,
            ("turn", FIRST, SAY), ("drop", (FIRST, INNER)),
        ):
            self.assertNotEqual(service.barred(event), None)
            for function in (service.go, service, service.do_all, service.tried):
                self.assertRaises(InvalidEvent, function, event)
                self.assertEqual(self.look(service), told)


class TableTest(ServiceCase):
    def test_example(self):
        service = Service(TILL)
        self.check_same(service.table(), ["full      1 -:0", "none      2 -:1.0.0"])

    def test_words_of_up_to_eight_letters_and_numbers_of_two_figures(self):
        checks = [("check", "abcdefgh"[:k], ("not", ("in", ()))) for k in range(1, 9)]
        due = [("abcdefgh"[:k] + " " * 8)[:8] + f"  0 -:{k - 1}" for k in range(1, 9)]
        self.check_same(Service(coins(*checks)).table(), due)
        steps = (("check", "x", ("=", ("item", "a"), 1)), ("call", "a"), BAD, ("if", ("<", 1, 1), (), (BAD,)))
        program = (SIX, (("a", (BAD,)),), steps)
        due = ["bad       6 a:0", "x        30 -:0", "bad       0 -:2", "bad       0 -:3.1.0"]
        self.check_same(Service(program).table(), due)
        self.check_same(Service((SIX, (), (("check", "abcdefgh", ("in", ())),))).table(), ["abcdefgh 36 -:0"])
        self.check_same([Service(coins()).table(), Service(coins(SAY)).table()], [[], []])

    def test_behind_events(self):
        service = Service(TILL)
        service.front()
        self.check_same(service.table(), ["full      1 -:0", "none      2 -:1"])
        found = service.table()
        found.append("")
        self.check_same(service.table(), found[:2])


class AdviceTest(ServiceCase):
    def test_example(self):
        service = Service(TILL)
        self.check_same(service.parting(("take", (None, (1, 0, 0)))), (0,))
        self.assertIs(service.barred(("come", (None, (1, 0, 0)), (None, (0,)))) is None, True)

    def test_idle(self):
        self.check_same(Service(TILL).idle(), ())
        program = coins(GOOD, FULL, ("if", FULL[2], (GOOD,), (BAD,)), calls=(("a", (BAD, BAD)),))
        self.check_same(Service(program).idle(), (("a", (0,)), ("a", (1,)), FIRST, (None, (2, 0, 0)), (None, (2, 1, 0))))
        self.check_same(Service(coins(BAD, FULL, BAD)).idle(), (SECOND, THIRD))

    def test_what_the_present_program_tells(self):
        maker = Maker(5)
        for program in [TILL, SMALL] + servable(made_programs(60, seed=14)):
            service = Service(program)
            for _ in range(8):
                event = made_event(maker, service.program)
                if service.barred(event) is None:
                    service.go(event)
                present = service.program
                self.check_same(service.fewest(), fewest_checks(present))
                self.check_same(service.words(), words_told(present))
                self.check_same(service.can_front(), may_front(present))
                failed = [slow_run(present, state)[2] for state in all_states(present[0])]
                self.check_same(service.idle(), tuple([key for key in keys_of_checks(present) if key not in failed]))

    def test_nothing_changes_and_nothing_is_counted(self):
        service = Service(TILL)
        service.go(PUT)
        told = self.look(service)
        for event in (PUT, COME, ("lean",), ("front",), WRONG, None, ("call", "a", ()), ("put", FIRST, LESS)):
            service.barred(event)
            try:
                service.parting(event)
            except InvalidEvent:
                pass
        self.check_same([self.look(service), service.counts()], [told, (1, 1)])


class WholeTest(ServiceCase):
    def test_services_do_not_touch_each_other_nor_their_arguments(self):
        programs = [TILL, SMALL, coins(GOOD, FULL, FULL)]
        told = repr(programs)
        services = [Service(program) for program in programs]
        events = [PUT, ("front",), ("lean",)]
        found = [self.look(service) for service in services]
        services[0].do_all(*events[:2])
        services[2].lean()
        self.check_same([self.look(services[1]), self.look(Service(TILL)), repr(programs)], [found[1], found[0], told])
        log = services[0].log()
        services[0].undo()
        self.check_same(log, (("service", TILL), PUT, ("front",)))

    def test_chance(self):
        maker = Maker(33)
        for program in [TILL] + servable(made_programs(50, seed=15)):
            service = Service(program)
            promise = slow_tolds(program)
            for _ in range(20):
                self.one_more(maker, service)
                present = service.program
                self.assertEqual([run(present, state)[0] for state in all_states(present[0])], promise)
                self.assertTrue(replayed(service.log()) == service)
                self.check_same(replayed(service.log()).program, present)

    def one_more(self, maker, service):
        """Do something with a service: an event, several, or back."""
        kind = maker.chance.randint(0, 5)
        told = self.look(service)
        events = [made_event(maker, service.program) for _ in range(3)]
        self.assertTrue(all(is_event(event) for event in events))
        try:
            if kind == 0:
                service.undo()
            elif kind == 1:
                service.do_all(*events)
            elif kind == 2:
                service.do_all(*events, keep=True)
                self.assertEqual(service.log()[-3:], tuple(events))
            else:
                service.go(events[0])
        except FaultError:
            if kind != 2:
                self.assertEqual(self.look(service), told)


if __name__ == "__main__":
    unittest.main()
