"""[9], [64], [65]: logs of services, written, read and replayed."""

import unittest

from eventmakers import EVENTS, KEY, SAY, SMALL, events_out_of_kind, made_event, servable
from faultcases import FaultCase
from firstfault.errors import InvalidEvent, InvalidPaper, NotUsable
from firstfault.eventreadings import read_log
from firstfault.eventtexts import event_line, log_lines
from firstfault.programclasses import Program
from firstfault.replaying import is_log, replayed
from firstfault.services import Service
from makers import Maker, made_programs, within_repeats
from samples import BAD, BIG, FULL, GOOD, INTEGERS, ITEMS, JUNK, NAMES, NONE, STEPS, TILL, coins

FIRST, THIRD = (None, (0,)), (None, (2,))
INNER = (None, (1, 0, 0))
FRONT = ("service", TILL)
PUT = ("put", THIRD, GOOD)
COME = ("come", INNER, FIRST)
LOG = (FRONT, PUT, COME, ("call", "a", (BAD,)), ("front",))


class LogTest(FaultCase):
    def test_log(self):
        service = Service(TILL)
        self.check_same(service.log(), (FRONT,))
        for k, event in enumerate(LOG[1:]):
            service.go(event)
            self.check_same(service.log(), LOG[:k + 2])
        service.barred(None)
        service.undo()
        self.check_same(service.log(), LOG[:-1])

    def test_text(self):
        service = Service(TILL)
        self.assertEqual(str(service), "-")
        service.go(("front",))
        self.assertEqual(str(service), "front")
        service.undo()
        for event in LOG[1:]:
            service.go(event)
        due = "put -:2 check good < 0 1 / come -:1.0.0 -:0 / call a 1 check bad in - / front"
        self.check_same(str(service), due)
        self.assertEqual(due, " / ".join([event_line(event) for event in LOG[1:]]))


class IsLogTest(FaultCase):
    def test_logs(self):
        for log in (LOG, (FRONT,), (("service", coins()),), (("service", SMALL),) + EVENTS):
            self.assertIs(is_log(log), True)
        self.assertIs(is_log(thing=LOG), True)
        # Events need not be possible, and there may be any number of them.
        for event in EVENTS + (("take", ("far", (BIG,))), ("put", KEY, ("call", "far")), ("call", "a", (within_repeats(SAY, 30),))):
            self.assertIs(is_log((FRONT, event)), True)
            self.assertIs(is_log((FRONT,) + (event,) * 50), True)

    def test_values_near_to_logs(self):
        for thing in JUNK + INTEGERS + NAMES + STEPS + EVENTS + (
            TILL, FRONT, Service(TILL), Program(ITEMS, ()), {}, list(LOG), LOG[1:], LOG[::-1], (TILL,), ("service",),
            ("service", TILL),
            (list(FRONT),), (FRONT + ((),),), (FRONT[:1],), (("Service", TILL),), (("", TILL),), ((None, TILL),),
            ((True, TILL),),
            ((("service",), TILL),), ((TILL, "service"),), (("service", list(TILL)),), (FRONT, FRONT), (FRONT, TILL),
            (FRONT, None),
            (("service", Program(ITEMS, ())),), (["service", TILL],), (FRONT, ()), LOG + ([],),
            LOG[:2] + (list(LOG[2]),) + LOG[3:],
        ):
            self.assertIs(is_log(thing), False, thing)

    def test_programs_of_which_no_service_can_be_made(self):
        for program in JUNK + INTEGERS + STEPS + (
            ((), (), ()), ((("a", 1, 0),), (), ()), coins(("call", "a")), coins(*[SAY] * 15), coins(*[GOOD] * 9),
            coins(calls=(("a", ()), ("b", ()), ("c", ()))), coins(calls=(("a", ()),) * 2),
        ):
            self.assertIs(is_log((("service", program),)), False)
            self.assertIs(is_log((("service", program),) + LOG[1:]), False)

    def test_events_out_of_kind(self):
        for event in events_out_of_kind():
            self.assertIs(is_log((FRONT, event)), False, event)
            self.assertIs(is_log((FRONT, PUT, event, PUT)), False)
            self.assertIs(is_log((FRONT, event, PUT)), False)


class ReplayedTest(FaultCase):
    def test_logs(self):
        for k in range(1, 6):
            service = replayed(LOG[:k])
            self.assertIs(service.__class__, Service)
            self.check_same([service.log(), service.counts(), len(service)], [LOG[:k], (0, 0), k - 1])
        due = Service(TILL)
        for event in LOG[1:]:
            due.go(event)
        again = replayed(log=LOG)
        self.assertTrue(again == due)
        self.check_same([again.program, again.promise, again.first], [due.program, due.promise, TILL])
        # It is a new one.
        again.undo()
        self.check_same([len(due), len(replayed(due.log())), again.counts()], [4, 4, (1, 1)])

    def check_event(self, event, reason, log):
        with self.assertRaises(InvalidEvent) as caught:
            replayed(log)
        self.assertIs(caught.exception.event, event)
        self.check_same(caught.exception.reason, reason)

    def test_a_changed_log_raises_the_first_error(self):
        for event, reason in (
            (("take", FIRST), "parts"), (("take", ("far", (0,))), "key"), (("put", FIRST, ("call", "far")), "program"),
            (("come", (None, (1,)), FIRST), "check"), (("turn", FIRST, ("repeat", 0, (SAY,) * 11)), "many"),
        ):
            self.assertIs(is_log((FRONT, event)), True)
            self.check_event(event, reason, (FRONT, event))
            self.check_event(event, reason, (FRONT, ("turn", FIRST, FULL), event, ("take", ("far", (0,)))))
        # Without its first event, and in another order.
        self.check_event(LOG[3], "name", LOG[:4] + LOG[3:])
        taken = ("take", THIRD)
        self.check_event(taken, "parts", (FRONT, taken, PUT))
        self.assertEqual(replayed((FRONT, PUT, taken)).program, TILL)
        # Another first program.
        dropped = ("drop", (FIRST,))
        self.check_event(dropped, "parts", (("service", coins(FULL)), dropped))
        self.assertEqual(replayed((("service", coins(GOOD)), ("drop", (FIRST,)))).program, coins())

    def test_forty_events(self):
        same = ("turn", FIRST, FULL)
        self.assertEqual(len(replayed((FRONT,) + (same,) * 40)), 40)
        self.check_event(same, "full", (FRONT,) + (same,) * 41)
        self.check_event(PUT, "full", (FRONT,) + (same,) * 40 + (PUT,))

    def test_the_errors_of_the_service(self):
        self.check_fault(NotUsable("many", -1), replayed, (("service", coins(*[SAY] * 15)), None))
        self.check_fault(InvalidPaper("items", -1), replayed, (("service", ((), (), ())),))

    def test_written_read_and_replayed(self):
        maker = Maker(17)
        for program in [TILL, SMALL, coins(FULL, NONE)] + servable(made_programs(40, seed=18)):
            service = Service(program)
            for _ in range(30):
                event = made_event(maker, service.program)
                if service.barred(event) is None:
                    service.go(event)
            log = read_log(log_lines(service.log()))
            self.check_same([log, is_log(log)], [service.log(), True])
            again = replayed(log)
            self.assertTrue(again == service)
            self.check_same([again.program, again.promise, str(again), again.counts()], [
                service.program, service.promise, str(service), (0, 0)])

    def test_arguments_stay_as_they_are(self):
        told = repr(LOG)
        for _ in range(2):
            service = replayed(LOG)
            service.undo()
            self.assertEqual(is_log(LOG), True)
        thing = [list(FRONT), ["lean"]]
        self.check_same([is_log(thing), thing, repr(LOG)], [False, [list(FRONT), ["lean"]], told])


if __name__ == "__main__":
    unittest.main()
