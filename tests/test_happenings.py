"""[55] to [57], [63]: events by kind, what becomes of a program by them, and why they are not possible."""

import unittest

from eventmakers import EVENTS, FAR_KEYS, KEY, SAY, SMALL, events_out_of_kind, made_event, servable, slow_reason
from faultcases import FaultCase
from firstfault.changes import with_step, with_step_ahead, without_step
from firstfault.coming import come
from firstfault.dropping import dropped
from firstfault.errors import InvalidEvent, ServiceError
from firstfault.events import is_event
from firstfault.fronting import fronted
from firstfault.gobehind import gone_behind
from firstfault.services import Service
from firstfault.terms import Count
from makers import Maker, all_states, keys_of_checks, made_programs, slow_alike, slow_equal, slow_tolds
from samples import BAD, BIG, COINS, FULL, GOOD, LESS, NONE, TILL, coins

FIRST, SECOND, THIRD, FOURTH = [(None, (k,)) for k in range(4)]
INNER, SET = (None, (1, 0, 0)), (None, (1, 0, 1))
NOTHING = ("repeat", 0, ())
MORE = ("set", "coins", ("+", COINS, 1))


class HappeningCase(FaultCase):
    def check_barred(self, program, event, reason):
        """Whether the event is not possible for this reason, and leaves all as it is."""
        service = Service(program)
        for function in (service.go, service, service.tried, service.do_all):
            with self.assertRaises(InvalidEvent) as caught:
                function(event)
            self.assertIs(caught.exception.event, event)
            self.check_same(caught.exception.reason, reason, event)
            self.assertEqual(caught.exception.__class__.__bases__, (ServiceError,))
        self.check_same([service.barred(event), service.program, len(service)], [reason, program, 0])
        if reason == "parts":
            self.assertIn((service.parting(event),), [(state,) for state, _ in service.promise])
        else:
            with self.assertRaises(InvalidEvent) as caught:
                service.parting(event)
            self.assertIs(caught.exception.event, event)
            self.check_same(caught.exception.reason, reason)

    def check_happens(self, program, event, due):
        """Whether the event is possible, and this program comes of it."""
        service = Service(program)
        self.check_same([service.barred(event), service.parting(event)], [None, None])
        self.check_same(service.tried(event), due)
        self.check_same(service.go(event), len(keys_of_checks(due)))
        self.check_same([service.program, service.log()], [due, (("service", program), event)])
        self.assertIs(service.log()[1], event)
        self.assertTrue(slow_alike(program, due))


class KindTest(HappeningCase):
    def test_events(self):
        for event in EVENTS + tuple([("take", key) for key in FAR_KEYS]):
            self.assertIs(is_event(event), True)
            self.assertNotEqual(Service(TILL).barred(event), "shape")

    def test_values_near_to_events(self):
        service = Service(TILL)
        for thing in events_out_of_kind():
            self.assertIs(is_event(thing), False, thing)
            self.assertEqual(service.barred(thing), "shape", thing)
        for thing in ({}, Count(1), service, object(), 1.5, ("take", {}), ("put", KEY, Count(1)), ("call", "a", service)):
            self.check_barred(TILL, thing, "shape")

    def test_each_kind_of_value_that_is_no_event(self):
        for thing in (None, (), [], ["lean"], "lean", ("lean", 1), ("take",), ("drop", ()), ("call", "A", ()), ("put", KEY, None),
                      ("take", (None, (True,))), ("come", KEY, None), ("turn", KEY, [SAY])):
            self.check_barred(TILL, thing, "shape")


class PossibleTest(HappeningCase):
    def test_put(self):
        for place in (FIRST, SECOND, (None, (1, 0, 2)), (None, (3,))):
            self.check_happens(TILL, ("put", place, GOOD), with_step_ahead(TILL, place, GOOD))
            self.check_happens(TILL, ("put", place, NOTHING), with_step_ahead(TILL, place, NOTHING))
        self.check_happens(TILL, ("put", FIRST, FULL), coins(FULL, *TILL[2]))
        self.check_happens(TILL, ("put", (None, (3,)), LESS), coins(*TILL[2], LESS))
        calls = (("a", ()), ("b", (("if", FULL[2], (), ()),)))
        program = coins(calls=calls)
        self.check_happens(program, ("put", ("a", (0,)), BAD), coins(calls=(("a", (BAD,)), calls[1])))
        self.check_happens(program, ("put", ("b", (0, 1, 0)), ("call", "a")), with_step_ahead(program, ("b", (0, 1, 0)), ("call", "a")))
        self.check_happens(program, ("put", FIRST, ("call", "b")), coins(("call", "b"), calls=calls))

    def test_take(self):
        program = coins(GOOD, FULL, FULL, NOTHING, LESS)
        for k in range(5):
            self.check_happens(program, ("take", (None, (k,))), without_step(program, (None, (k,))))
        program = coins(SAY, calls=(("a", (BAD, SAY)),))
        for k in range(2):
            self.check_happens(program, ("take", ("a", (k,))), without_step(program, ("a", (k,))))

    def test_turn(self):
        same = ("check", "full", ("not", ("=", COINS, 4)))
        self.check_happens(TILL, ("turn", FIRST, same), with_step(TILL, FIRST, same))
        self.check_happens(TILL, ("turn", FIRST, FULL), TILL)
        self.check_happens(TILL, ("turn", THIRD, ("say", ("-", COINS, 0))), with_step(TILL, THIRD, ("say", ("-", COINS, 0))))
        again = ("if", FULL[2], TILL[2][1:2], ())
        self.check_happens(TILL, ("turn", SECOND, again), with_step(TILL, SECOND, again))

    def test_come(self):
        for key, place in ((INNER, FIRST), (INNER, SECOND), (FIRST, FIRST)):
            self.check_happens(TILL, ("come", key, place), come(TILL, key, place))

    def test_behind(self):
        program = coins(NONE, MORE)
        self.check_happens(program, ("behind", FIRST), gone_behind(program, FIRST))
        program = coins(("call", "a"), calls=(("a", (NONE, MORE)),))
        self.check_happens(program, ("behind", ("a", (0,))), gone_behind(program, ("a", (0,))))

    def test_drop(self):
        program = coins(GOOD, FULL, LESS, FULL, GOOD)
        for keys in ((FIRST,), (FOURTH,), (FOURTH, FIRST), (FIRST, FOURTH, (None, (4,)))):
            self.check_happens(program, ("drop", keys), dropped(program, *keys))
        low = ("<", COINS, 3)
        aba = coins(("check", "a", low), ("check", "b", low), ("check", "a", low))
        self.check_happens(aba, ("drop", (SECOND, FIRST)), coins(aba[2][2]))

    def test_lean(self):
        program = coins(GOOD, FULL, LESS, FULL)
        self.check_happens(program, ("lean",), coins(FULL, LESS))
        self.check_happens(coins(FULL, FULL, SAY, BAD, BAD), ("lean",), coins(FULL, SAY, BAD))
        self.check_happens(coins(GOOD), ("lean",), coins())
        # The first of several sets.
        same = ("check", "none", ("<", 1, COINS))
        self.check_happens(coins(same, NONE, LESS), ("lean",), coins(same, LESS))

    def test_front(self):
        self.check_happens(TILL, ("front",), fronted(TILL))
        self.check_happens(coins(), ("front",), coins())
        program = coins(LESS, FULL, ("set", "coins", 0), BAD)
        self.check_happens(program, ("front",), fronted(program))

    def test_call(self):
        self.check_happens(TILL, ("call", "a", (BAD, LESS)), coins(*TILL[2], calls=(("a", (BAD, LESS)),)))
        program = coins(("call", "b"), calls=(("b", (SAY,)),))
        due = coins(("call", "b"), calls=(("b", (SAY,)), ("a", (("call", "b"),))))
        self.check_happens(program, ("call", "a", (("call", "b"),)), due)
        self.check_happens(program, ("call", "c", ()), coins(("call", "b"), calls=(("b", (SAY,)), ("c", ()))))


class BarredTest(HappeningCase):
    def test_keys(self):
        others = FAR_KEYS + ((None, (3,)), (None, (1, 0, 2)), (None, (1, 1, 0)), ("a", (0,)), (None, (BIG,)), (None, (0, 0)))
        for key in others:
            # Also where there is more that is wrong.
            for event in (("take", key), ("turn", key, SAY), ("turn", key, ("call", "far")), ("come", key, FIRST), ("come", key, key),
                          ("behind", key), ("drop", (key,)), ("drop", (INNER, key)), ("drop", (key, THIRD))):
                self.check_barred(TILL, event, "key")
        for keys in ((FIRST, FIRST), (FIRST, INNER, FIRST), (THIRD, THIRD), (SECOND, FIRST, FIRST)):
            self.check_barred(TILL, ("drop", keys), "key")

    def test_checks(self):
        for key in (SECOND, SET, THIRD):
            for event in (("come", key, FIRST), ("come", key, (None, (9,))), ("behind", key), ("drop", (key,)), ("drop", (FIRST, key))):
                self.check_barred(TILL, event, "check")
        # All keys come ahead of all checks.
        self.check_barred(TILL, ("drop", (THIRD, (None, (9,)))), "key")
        self.check_barred(TILL, ("drop", (THIRD, FIRST, FIRST)), "key")
        self.check_barred(TILL, ("drop", (THIRD, FIRST)), "check")

    def test_places(self):
        for place in FAR_KEYS + ((None, (4,)), (None, (1, 0, 3)), (None, (1, 1, 0)), (None, (0, 0, 0)), ("a", (0,))):
            self.check_barred(TILL, ("put", place, SAY), "place")
            self.check_barred(TILL, ("put", place, ("call", "far")), "place")
            self.check_barred(TILL, ("come", FIRST, place), "place")
        # No keys of steps, or not outside.
        for place in ((None, (3,)), (None, (1, 0, 2)), INNER, SET):
            self.check_barred(TILL, ("come", INNER, place), "place")
        program = coins(FULL, ("call", "a"), calls=(("a", (SAY, NONE)),))
        self.check_barred(program, ("come", ("a", (1,)), ("a", (0,))), "place")

    def test_no_set_behind_a_check(self):
        self.check_barred(TILL, ("behind", FIRST), "place")
        for other in (FULL, SAY, ("if", FULL[2], (LESS,), (LESS,)), ("repeat", 1, (LESS,))):
            self.check_barred(coins(GOOD, other, LESS), ("behind", FIRST), "place")
        self.check_barred(coins(LESS, GOOD), ("behind", SECOND), "place")

    def test_may(self):
        self.check_barred(TILL, ("come", INNER, THIRD), "may")
        self.check_barred(TILL, ("come", FIRST, SECOND), "may")
        self.check_barred(coins(SAY, FULL), ("come", SECOND, FIRST), "may")
        self.check_barred(TILL, ("behind", INNER), "may")
        self.check_barred(coins(SAY, FULL), ("front",), "may")
        self.check_barred(coins(FULL, SAY, NONE), ("front",), "may")

    def test_same(self):
        for program in (TILL, coins(), coins(FULL), coins(SAY, LESS), coins(FULL, NONE)):
            self.check_barred(program, ("lean",), "same")

    def test_names(self):
        program = coins(calls=(("a", ()), ("b", ())))
        for name in ("a", "b"):
            # Ahead of "program" and "many".
            for steps in ((), (SAY,), (("call", "far"),), (FULL,) * 9):
                self.check_barred(program, ("call", name, steps), "name")

    def test_programs(self):
        calls = (("a", (SAY,)), ("b", ()))
        program = coins(GOOD, calls=calls)
        # Also where it would be too great.
        for step in (
            ("call", "far"), ("set", "far", 1), ("say", ("item", "far")), ("check", "x", ("in", ((9,),))),
            ("repeat", 1, (("call", "c"),)), ("repeat", 1, (FULL,) * 20 + (("call", "c"),)),
        ):
            self.check_barred(program, ("put", FIRST, step), "program")
            self.check_barred(program, ("turn", FIRST, step), "program")
            self.check_barred(program, ("put", ("a", (1,)), step), "program")
            self.check_barred(program, ("call", "c", (step,)), "program")
        for step in (("call", "a"), ("call", "b")):
            self.check_barred(program, ("put", ("a", (0,)), step), "program")
            self.check_barred(program, ("turn", ("a", (0,)), step), "program")
        self.check_barred(program, ("put", ("b", (0,)), ("call", "b")), "program")
        self.check_barred(coins(), ("call", "c", (("call", "c"),)), "program")

    def test_too_great_by_one_step(self):
        most = coins(*[NOTHING] * 12, calls=(("a", (SAY, SAY)),))
        less = coins(*[NOTHING] * 11, calls=(("a", (SAY, SAY)),))
        for place in (FIRST, ("a", (2,)), (None, (3, 0, 0))):
            self.check_barred(most, ("put", place, NOTHING), "many")
            self.check_happens(less, ("put", place, NOTHING), with_step_ahead(less, place, NOTHING))
            self.check_barred(less, ("put", place, ("repeat", 0, (SAY,))), "many")
        self.check_happens(most, ("turn", FIRST, ("repeat", 0, ())), most)
        self.check_barred(most, ("turn", FIRST, ("repeat", 0, (SAY,))), "many")
        self.check_happens(less, ("turn", FIRST, ("repeat", 0, (SAY,))), with_step(less, FIRST, ("repeat", 0, (SAY,))))
        self.check_barred(most, ("call", "b", (SAY,)), "many")
        self.check_happens(most, ("call", "b", ()), most[:1] + (most[1] + (("b", ()),), most[2]))
        self.check_happens(less, ("call", "b", (SAY,)), less[:1] + (less[1] + (("b", (SAY,)),), less[2]))

    def test_too_great_by_one_check(self):
        most = coins(*[GOOD] * 6, calls=(("a", (BAD, BAD)),))
        less = coins(*[GOOD] * 5, calls=(("a", (BAD, BAD)),))
        for place in (FIRST, ("a", (0,))):
            self.check_barred(most, ("put", place, GOOD), "many")
            self.check_happens(less, ("put", place, GOOD), with_step_ahead(less, place, GOOD))
            self.check_barred(less, ("put", place, ("if", FULL[2], (GOOD,), (GOOD,))), "many")
            self.check_happens(most, ("put", place, NOTHING), with_step_ahead(most, place, NOTHING))
        self.check_happens(most, ("turn", FIRST, ("repeat", 1, (GOOD,))), with_step(most, FIRST, ("repeat", 1, (GOOD,))))
        self.check_barred(most, ("turn", FIRST, ("repeat", 1, (GOOD, GOOD))), "many")
        self.check_barred(most, ("call", "b", (BAD,)), "many")
        self.check_happens(less, ("call", "b", (BAD,)), less[:1] + (less[1] + (("b", (BAD,)),), less[2]))

    def test_too_great_by_one_call(self):
        most = coins(SAY, calls=(("a", ()), ("b", ())))
        self.check_barred(most, ("call", "c", ()), "many")
        self.check_barred(most, ("call", "c", (("call", "a"),)), "many")

    def test_many_ahead_of_parts(self):
        most = coins(*[NOTHING] * 14)
        self.check_barred(most, ("put", FIRST, SAY), "many")
        self.check_barred(most, ("turn", FIRST, ("repeat", 1, (SAY,))), "many")
        self.check_barred(most, ("turn", FIRST, SAY), "parts")

    def test_parts(self):
        for event, state in (
            (("put", FIRST, SAY), (0,)), (("put", FIRST, ("check", "a", ("<", COINS, 3))), (3,)),
            (("put", FIRST, LESS), (2,)),
            (("put", (None, (3,)), SAY), (2,)), (("take", FIRST), (4,)), (("take", INNER), (0,)),
            (("take", SECOND), (0,)),
            (("take", THIRD), (2,)), (("turn", FIRST, NOTHING), (4,)), (("turn", INNER, FULL), (0,)),
            (("turn", THIRD, SAY), (2,)),
            (("drop", (FIRST,)), (4,)), (("drop", (FIRST, INNER)), (0,)), (("drop", (INNER, FIRST)), (0,)),
        ):
            self.check_barred(TILL, event, "parts")
            self.check_same(Service(TILL).parting(event), state, event)

    def test_parts_is_what_was_promised_and_not_what_is_told_alike(self):
        # The last program before an event tells what the first one does; so both are the same.
        service = Service(coins(FULL, GOOD))
        service.take(SECOND)
        service.put(FIRST, FULL)
        self.check_same(service.barred(("take", FIRST)), None)
        service.take(FIRST)
        self.check_same([service.barred(("take", FIRST)), service.parting(("take", FIRST))], ["parts", (4,)])

    def test_full_behind_shape_and_ahead_of_all_others(self):
        service = Service(TILL)
        service.do_all(*[("turn", FIRST, FULL)] * 40)
        self.assertEqual(service.barred(None), "shape")
        self.assertEqual(service.barred(("drop", ())), "shape")
        for event in EVENTS + (
            ("take", (None, (9,))), ("put", (None, (9,)), SAY), ("turn", FIRST, FULL), ("call", "a", (("call", "b"),)),
        ):
            self.check_same(service.barred(event), "full")
            with self.assertRaises(InvalidEvent) as caught:
                service.parting(event)
            self.check_same([caught.exception.event, caught.exception.reason], [event, "full"])
        service.undo()
        self.assertEqual(service.barred(("turn", FIRST, FULL)), None)


class ChanceTest(HappeningCase):
    def test_by_another_way(self):
        maker = Maker(21)
        found = {}
        for program in [TILL, SMALL] + servable(made_programs(150, seed=12)):
            service = Service(program)
            promise = slow_tolds(program)
            for _ in range(25):
                present, many = service.program, len(service)
                event = made_event(maker, present)
                self.assertIs(is_event(event), True)
                reason, later = slow_reason(present, promise, many, event)
                found[(event[0], reason)] = found.get((event[0], reason), 0) + 1
                self.check_same(service.barred(event), reason, (present, event))
                self.check_parting(service, promise, event, reason, later)
                if reason is None:
                    self.check_same(service.tried(event), later)
                    self.check_same(service.go(event), len(keys_of_checks(later)))
                    self.check_same(service.program, later)
                    self.assertEqual(slow_tolds(later), promise)
                    if event[0] in ("come", "behind", "front"):
                        self.assertTrue(slow_equal(present, later))
                else:
                    with self.assertRaises(InvalidEvent) as caught:
                        service.go(event)
                    self.check_same([caught.exception.event, caught.exception.reason], [event, reason])
                    self.check_same([service.program, len(service)], [present, many])
        due = [("put", "place"), ("put", "parts"), ("take", "key"), ("take", "parts"), ("turn", "key"), ("turn", "parts"),
               ("come", "key"), ("come", "check"), ("come", "place"), ("come", "may"), ("behind", "place"),
               ("drop", "key"),
               ("drop", "parts"), ("lean", "same"), ("front", "may"), ("call", "name"), ("call", "many"), ("put", "many")]
        self.assertEqual([row for row in due if row not in found], [])
        words = ("put", "take", "turn", "come", "behind", "drop", "lean", "front", "call")
        self.assertEqual([word for word in words if (word, None) not in found], [])

    def check_parting(self, service, promise, event, reason, later):
        if reason == "parts":
            parted = [k for k, told in enumerate(slow_tolds(later)) if told != promise[k]]
            self.check_same(service.parting(event), all_states(later[0])[parted[0]])
        elif reason is None:
            self.assertIs(service.parting(event), None)
        else:
            self.assertRaises(InvalidEvent, service.parting, event)


if __name__ == "__main__":
    unittest.main()
