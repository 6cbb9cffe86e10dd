"""[18], [55], [66], [67]: events and logs as lines."""

import unittest

from firstfault.eventreadings import read_event, read_log
from firstfault.eventtexts import event_line, log_lines
from firstfault.programtexts import program_text
from makers import made_programs
from samples import BIG, FULL, ITEMS, LESS, NESTED, NONE, TILL
from writings import EVENT_TEXTS

TILL_LINES = ["item coins 0 4", "main", "check full < item coins 4",
              "repeat 2 2 check none < 0 item coins set coins - item coins 1", "say item coins"]


class EventLineTest(unittest.TestCase):
    def test_each_kind_of_event(self):
        rows = (
            (("put", (None, (1, 0, 2)), NONE), "put -:1.0.2 check none < 0 item coins"),
            (("take", (None, (1,))), "take -:1"), (("turn", ("a", (0,)), LESS), "turn a:0 set coins - item coins 1"),
            (("come", (None, (1, 0, 0)), (None, (0,))), "come -:1.0.0 -:0"), (("behind", ("b", (2,))), "behind b:2"),
            (("drop", ((None, (0,)),)), "drop -:0"),
            (("drop", ((None, (0,)), ("a", (1,)), (None, (0,)))), "drop -:0 a:1 -:0"),
            (("lean",), "lean"), (("front",), "front"), (("call", "a", ()), "call a 0"),
            (("call", "a", (FULL, LESS)), "call a 2 check full < item coins 4 set coins - item coins 1"),
            (("put", ("a", (0,)), ("repeat", -1, (("if", ("in", ((0,), (1,))), (), (("call", "b"),)),))),
             "put a:0 repeat -1 1 if in 0;1 0 1 call b"),
        )
        for event, line in rows:
            self.assertEqual(event_line(event), line)
            self.assertEqual(event_line(event=event), line)

    def test_keys_and_steps_of_all_kinds(self):
        for line, event in EVENT_TEXTS:
            self.assertEqual(event_line(event), line)

    def test_what_was_written_is_read_as_the_same_value(self):
        for _, event in EVENT_TEXTS:
            self.assertEqual(repr(read_event(event_line(event))), repr(event))

    def test_great_numbers(self):
        self.assertEqual(event_line(("take", (None, (10 * BIG,)))), "take -:" + "9" * 60 + "0")
        self.assertEqual(event_line(("call", "a", (("say", -10 * BIG),) * 30)), "call a 30" + (" say -" + "9" * 60 + "0") * 30)


class LogLinesTest(unittest.TestCase):
    def test_without_events(self):
        self.assertEqual(log_lines((("service", TILL),)), ["service 5"] + TILL_LINES)
        self.assertEqual(log_lines(log=(("service", (ITEMS, (), ())),)), ["service 2", "item coins 0 4", "main"])

    def test_with_events(self):
        log = (("service", TILL), ("front",), ("take", (None, (1,))), ("drop", ((None, (0,)), (None, (9,)))))
        self.assertEqual(log_lines(log), ["service 5"] + TILL_LINES + ["front", "take -:1", "drop -:0 -:9"])

    def test_all_events(self):
        log = (("service", NESTED),) + tuple([event for _, event in EVENT_TEXTS])
        own = program_text(NESTED).split("\n")
        self.assertEqual(log_lines(log), [f"service {len(own)}"] + own + [line for line, _ in EVENT_TEXTS])

    def test_what_was_written_is_read_as_the_same_value(self):
        for program in [TILL, NESTED] + made_programs(100, seed=4):
            for many in (0, 1, 5):
                log = (("service", program),) + tuple([event for _, event in EVENT_TEXTS[:many]])
                self.assertEqual(repr(read_log(log_lines(log))), repr(log))

    def test_a_new_list_each_time(self):
        log = (("service", TILL), ("lean",))
        told = repr(log)
        first = log_lines(log)
        self.assertIs(first.__class__, list)
        first.clear()
        self.assertEqual([len(log_lines(log)), repr(log)], [7, told])
        self.assertIsNot(log_lines(log), log_lines(log))


if __name__ == "__main__":
    unittest.main()
