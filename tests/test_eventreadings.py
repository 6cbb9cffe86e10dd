"""[9], [20], [55], [66], [67]: events and logs that are read from lines."""

import unittest

from firstfault.errors import FaultError, InvalidText, TextError
from firstfault.eventreadings import read_event, read_log
from firstfault.eventtexts import event_line, log_lines
from makers import within_repeats
from samples import ITEMS, NESTED, NONE, TILL
from writings import EVENT_TEXTS, ITEM_LINE, NINES, NO_KEYS, NO_NAMES, NO_NUMBERS, PROGRAM_TEXTS

MAIN = [ITEM_LINE, "main"]
SAYS = ("say", 1)


class EventTest(unittest.TestCase):
    def check_fields(self, rows):
        for text, field in rows:
            with self.assertRaises(InvalidText, msg=repr(text)) as caught:
                read_event(text)
            found = caught.exception
            self.assertEqual(repr((found.line, found.field)), repr((0, field)), repr(text))
            self.assertTrue(isinstance(found, TextError) and isinstance(found, FaultError))

    def test_example(self):
        self.assertEqual(read_event("put -:1.0.2 check none < 0 item coins"), ("put", (None, (1, 0, 2)), NONE))
        self.check_fields([("drop -:0 a", 2)])

    def test_values(self):
        for text, event in EVENT_TEXTS:
            self.assertEqual(repr(read_event(text)), repr(event))
            self.assertEqual(event_line(read_event(text=text)), text)

    def test_words_missing_empty_too_many_or_with_newlines(self):
        for text, event in EVENT_TEXTS:
            words = text.split(" ")
            for more in (" ", " x", " 1", " \n", " say 1", " -:"):
                self.check_fields([(text + more, len(words))])
            self.check_fields([(" " + text, 0)] + ([] if event[0] == "drop" else [(text + " -:0", len(words))]))
            for k in range(len(words)):
                if event[0] != "drop" or k < 2:
                    self.check_fields([(" ".join(words[:k]), k)])
                self.check_fields([(" ".join(words[:k] + [""] + words[k:]), k)])
                self.check_fields([(" ".join(words[:k] + [words[k] + "\n"] + words[k + 1:]), k)])
                self.check_fields([(" ".join(words[:k] + ["\n" + words[k]] + words[k + 1:]), k)])

    def test_first_words(self):
        others = ("", "x", "service", "undo", "Put", "puts", "add", "say", "check", "main", "-:0", "1", "\n", "LEAN", "state")
        self.check_fields([(word, 0) for word in others] + [(word + " -:0 say 1", 0) for word in others])
        self.check_fields([("service 2", 0), ("\nlean", 0), ("lean\n", 0), ("lean\nlean", 0)])

    def test_keys(self):
        for word in NO_KEYS:
            self.check_fields([(f"{event} {word} say 1", 1) for event in ("put", "take", "turn", "come", "behind", "drop")])
            self.check_fields([(f"come -:0 {word}", 2), (f"drop -:0 {word}", 2), (f"drop -:0 a:1 {word} -:2", 3)])

    def test_keys_missing_or_too_many(self):
        self.check_fields([
            ("put", 1), ("take", 1), ("turn", 1), ("come", 1), ("behind", 1), ("drop", 1), ("drop ", 1),
            ("come -:0", 2),
            ("take -:0 -:1", 2), ("behind -:0 -:1", 2), ("come -:0 -:1 -:2", 3), ("lean -:0", 1), ("front -:0", 1),
            ("lean ", 1),
            ("put -:0", 2), ("turn -:0", 2), ("put -:0 -:0", 2), ("turn say 1", 1), ("put -:0 ", 2), ("drop -:0 ", 2),
            ("drop -:0  -:1", 2),
        ])

    def test_steps(self):
        for event in ("put", "turn"):
            self.check_fields([
                (f"{event} -:0 x", 2), (f"{event} -:0 1 say 1", 2), (f"{event} -:0 say = 1 1", 3),
                (f"{event} -:0 check a 1", 4),
                (f"{event} -:0 repeat 1 1 call A", 6), (f"{event} -:0 say 1 say 1", 4), (f"{event} -:0 set A 1", 3),
            ])

    def test_calls(self):
        self.check_fields([
            ("call", 1), ("call a", 2), ("call a 1", 3), ("call a 2 say 1", 5), ("call a 1 say 1 say 1", 5),
            ("call a 0 say 1", 3),
            ("call a 1 x", 3), ("call a say 1", 2), ("call -:0 0", 1), (f"call a {NINES} say 1", 5),
            ("call a 2 say 1 say in", 6),
        ])
        for name in NO_NAMES:
            self.check_fields([(f"call {name} 0", 1)])
        for word in NO_NUMBERS:
            self.check_fields([(f"call a {word}", 2), (f"call a {word} say 1", 2)])

    def test_within_thirty_others_and_within_more(self):
        deep = within_repeats(("call", "a"), 30)
        front = "repeat 1 1 " * 30
        self.assertEqual(read_event(f"put -:0 {front}call a"), ("put", (None, (0,)), deep))
        self.assertEqual(read_event(f"turn -:0 {front}call a"), ("turn", (None, (0,)), deep))
        self.assertEqual(read_event(f"call b 2 say 1 {front}call a"), ("call", "b", (SAYS, deep)))
        self.check_fields([(f"put -:0 {front}say 1", 93), (f"turn -:0 repeat 1 1 {front}call a", 93)])
        self.check_fields([(f"call b 1 {front}say 1", 94)])


class LogTest(unittest.TestCase):
    def check_lines(self, rows):
        for lines, line, field in rows:
            told = list(lines)
            with self.assertRaises(InvalidText, msg=repr(lines)) as caught:
                read_log(lines)
            self.assertEqual(repr((caught.exception.line, caught.exception.field)), repr((line, field)), repr(lines))
            self.assertIs(caught.exception.__class__, InvalidText)
            self.assertEqual(lines, told)

    def test_values(self):
        self.assertEqual(read_log(["service 2"] + MAIN), (("service", (ITEMS, (), ())),))
        lines = ["service 4"] + MAIN + ["say 1", "call a", "lean", "drop -:0 -:1"]
        log = (("service", (ITEMS, (), (SAYS, ("call", "a")))), ("lean",), ("drop", ((None, (0,)), (None, (1,)))))
        self.assertEqual(repr(read_log(lines)), repr(log))
        self.assertEqual(repr(read_log(lines=lines)), repr(log))
        for program in (TILL, NESTED):
            log = (("service", program),) + tuple([event for _, event in EVENT_TEXTS])
            self.assertEqual(repr(read_log(log_lines(log))), repr(log))

    def test_programs_that_fit_nowhere(self):
        for text, program in PROGRAM_TEXTS:
            own = text.split("\n")
            lines = [f"service {len(own)}"] + own + ["front"]
            self.assertEqual(repr(read_log(lines)), repr((("service", program), ("front",))))
            self.assertEqual(log_lines(read_log(lines)), lines)

    def test_the_first_line(self):
        self.check_lines([([], 0, 0)])
        for more in ([], MAIN, MAIN + ["lean"]):
            for word in ("", "lean", "main", "Service", "services", ITEM_LINE, " service 2", "\n", "service\n"):
                self.check_lines([([word] + more, 0, 0), ([word + " 2"] + more, 0, 0)])
            for word in NO_NUMBERS + ("0", "1", "x", "two"):
                self.check_lines([([f"service {word}"] + more, 0, 1), ([f"service {word} 2"] + more, 0, 1)])
            self.check_lines([(["service"] + more, 0, 1), (["service 2 "] + more, 0, 2), (["service 2 2"] + more, 0, 2)])

    def test_a_line_of_the_first_element_that_is_missing(self):
        self.check_lines([
            (["service 2"], 1, 0), (["service 2", ITEM_LINE], 2, 0), (["service 3"] + MAIN, 3, 0),
            ([f"service {NINES}"] + MAIN, 3, 0),
            (["service 5", ITEM_LINE, "part a", "say 1"], 4, 0), (["service 9"] + MAIN + ["say 1", "say 1"], 5, 0),
        ])
        own = log_lines((("service", NESTED),))
        for k in range(len(own)):
            self.check_lines([(own[:k], k, 0), ([f"service {NINES}"][:k] + own[1:k], k, 0)])

    def test_no_main_within_the_lines_that_are_told(self):
        self.check_lines([
            (["service 2", ITEM_LINE, "item d 0 1", "main"], 3, 0),
            (["service 2", ITEM_LINE, "part a", "main", "lean"], 3, 0),
            (["service 3", ITEM_LINE, "part a", "say 1"], 4, 0),
            (["service 3", ITEM_LINE, "part a", "say 1", "x"], 4, 0),
        ])

    def test_lines_of_the_program_that_are_not_possible(self):
        self.check_lines([
            (["service 2", "main"], 1, 0), (["service 2", "main", "main"], 1, 0),
            (["service 2", ITEM_LINE, "lean"], 2, 0),
            (["service 2", "item a 0"], 1, 3), (["service 2", "item a 0 1 2", "main"], 1, 4),
            (["service 3"] + MAIN + ["lean"], 3, 0),
            (["service 3"] + MAIN + ["main"], 3, 0), (["service 4"] + MAIN + ["say in"], 3, 1),
            (["service 2", ITEM_LINE, ""], 2, 0),
            (["service 4"] + MAIN + ["say 1 ", "x"], 3, 2), (["service 2", "", "main"], 1, 0),
            (["service 2", ITEM_LINE + "\nmain"], 1, 3),
            (["service 2", ITEM_LINE, "main\n"], 2, 0), (["service 3", ITEM_LINE, "main\nsay 1"], 2, 0),
        ])

    def test_lines_of_events_that_are_not_possible(self):
        front = ["service 3"] + MAIN + ["say 1", "lean"]
        self.check_lines([
            (front + [""], 5, 0), (front + ["x", "y"], 5, 0), (front + ["take"], 5, 1),
            (front + ["front", "drop -:0 a"], 6, 2),
            (front + ["front "], 5, 1), (front + ["say 1"], 5, 0), (front + ["service 2"] + MAIN, 5, 0),
            (front + ["lean\n"], 5, 0),
            (front + ["take -:0\n"], 5, 1), (front + ["call a 1 say 1 x"], 5, 5),
            (front[:4] + ["main"] + front[4:], 4, 0),
            (["service 2"] + MAIN + ["say 1", "lean"], 3, 0),
        ])

    def test_no_call_hangs_on_an_earlier_one(self):
        lines = ["service 2"] + MAIN + ["lean"]
        first = read_log(lines)
        self.check_lines([(lines + ["x"], 4, 0)])
        self.assertEqual([read_log(lines), lines], [first, ["service 2"] + MAIN + ["lean"]])


if __name__ == "__main__":
    unittest.main()
