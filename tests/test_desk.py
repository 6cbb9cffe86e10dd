"""[2], [9], [68]: a desk, which answers rows."""

import unittest

from eventmakers import SAY, SMALL, made_event, servable
from faultcases import FaultCase
from firstfault.desk import Desk
from firstfault.errors import (
    FaultError, InvalidEvent, InvalidPaper, InvalidRow, InvalidState, NothingToUndo, NotUsable, ServiceError, TextError,
)
from firstfault.eventtexts import event_line, log_lines
from firstfault.programtexts import key_text, program_text
from firstfault.services import Service
from makers import Maker, all_states, made_programs
from samples import BAD, BIG, COINS, FULL, GOOD, NESTED, NONE, SIX, TILL, coins
from writings import EVENT_TEXTS, NO_KEYS

FIRST, INNER = (None, (0,)), (None, (1, 0, 0))
TILL_ROW = "\n".join(log_lines((("service", TILL),)))
PLAIN = ("undo", "count", "log", "program", "checks", "idle", "words", "fewest", "fronts", "table")
# Strings that are no row at any time.
NO_ROWS = (
    "", " ", "\n", "-", "x", "ok", "Undo", "undo ", " undo", "undo\n", "\nundo", "undo undo", "undo 1", "count 1",
    "counts", "log -", "program x",
    "checks -:0", "idles", "word", "words x", "fewest 1", "front s", "table\n", "tables", "bars", "bars ", "bars  lean",
    "bars x", "bars lean ",
    "bars bars lean", "bars\nlean", "bars lean\n", "bars service", "bars undo", "parting", "parting x", "parting  lean",
    "parting take",
    "parting parting lean", "told", "told ", "told x", "told -", "told 1 2", "told 1,", "told ,1", "told 01", "told +1",
    "told -0", "told 1.0",
    "told 1;2", "told 1\n", "told\n1", "told  1", "told 1 ", "told (1,)", "told None", "lean ", " lean", "lean\n",
    "lean lean", "lean\nlean",
    "front 1", "Lean", "take", "take ", "take -:0 -:1", "take x", "put -:0", "put -:0 x", "drop", "drop ", "come -:0",
    "call a", "call a 1", "call a x",
    "service", "service 2", "service\n2", "service 3\nitem a 0 1", "service 2\nitem a 0 1\nmain\n",
    "service 2\nitem a 0 1\nmain\nlean",
    "service 2\nitem a 0 1\nmain\nundo", "service 2\nitem a 0 1", "service 2\n\nitem a 0 1\nmain", "service 1\nmain",
    "service 0",
    "service 2 \nitem a 0 1\nmain", "service 02\nitem a 0 1\nmain", "service x\nitem a 0 1\nmain",
    "service 3\nitem a 0 1\nmain\nx",
    "service 2\nmain\nitem a 0 1", "item a 0 1\nmain", "service 3\nitem a 0 1\nmain", "service 2\nitem a 0 1\nmain ",
    "service 3\nitem a 0 1\nmain\nlean",
    " service 2\nitem a 0 1\nmain", "service 2\nitem a 0 1\nsay 1",
)


def desk_with(*events, program=TILL):
    desk = Desk()
    desk.say("\n".join(log_lines((("service", program),))))
    for event in events:
        desk.say(event_line(event))
    return desk


class DeskCase(FaultCase):
    def check_answers(self, desk, *rows):
        for row, due in rows:
            self.check_same(desk.say(row), due, row)

    def check_no_row(self, desk, row):
        with self.assertRaises(InvalidRow) as caught:
            desk.say(row)
        self.assertIs(caught.exception.row, row)
        self.assertEqual(caught.exception.__class__.__bases__, (TextError,))

    def look(self, desk):
        return repr([desk.say(row) for row in PLAIN[1:]])


class BeforeTest(DeskCase):
    def test_before_the_first_service(self):
        desk = Desk()
        for row in PLAIN + NO_ROWS + ("told 1", "told 9", "bars lean", "parting lean", "lean", "front", "take -:0", "told 1,2"):
            self.check_no_row(desk, row)
        for row, _ in EVENT_TEXTS[::9]:
            self.check_no_row(desk, row)
            self.check_no_row(desk, "bars " + row)
        self.check_same(desk.say(TILL_ROW), "ok")

    def test_a_service_that_cannot_be_made(self):
        desk = Desk()
        self.check_fault(InvalidPaper("item", 0), desk.say, "service 2\nitem a 1 0\nmain")
        self.check_fault(NotUsable("many", -1), desk.say, "service 17\nitem a 0 1\nmain" + "\nsay 1" * 15)
        # There is none yet.
        self.check_no_row(desk, "count")
        self.check_answers(desk, (TILL_ROW, "ok"), ("count", "0"))


class ServiceTest(DeskCase):
    def test_first_elements(self):
        for program in (TILL, SMALL, coins(), coins(calls=(("a", ()), ("main", (SAY,))))):
            desk = Desk()
            row = "\n".join(log_lines((("service", program),)))
            self.check_answers(desk, (row, "ok"), ("count", "0"), ("log", "-"))
            self.check_same(desk.say("program"), program_text(program).replace("\n", " / "))

    def test_another_one(self):
        desk = desk_with(("front",))
        self.check_same(desk.say("count"), "1")
        self.check_answers(desk, ("service 3\nitem a 0 1\nmain\nsay item a", "ok"), ("count", "0"), ("told 1", "1 -"))

    def test_lines_that_can_be_read_and_of_which_no_service_can_be_made(self):
        desk = desk_with(("front",))
        told = self.look(desk)
        for row, error in (
            ("service 2\nitem a 1 0\nmain", InvalidPaper("item", 0)),
            ("service 3\nitem a 0 1\nmain\ncall a", InvalidPaper("name", FIRST)),
            ("service 4\nitem a 0 1\npart b\npart b\nmain", InvalidPaper("call", 1)),
            ("service 3\nitem a 0 1\nmain\nsay item b", InvalidPaper("part", FIRST)),
            ("service 5\nitem a 0 1\npart b\npart c\npart d\nmain", NotUsable("many", -1)),
            ("service 17\nitem a 0 1\nmain" + "\nsay 1" * 15, NotUsable("many", -1)),
            ("service 11\nitem a 0 1\nmain" + "\ncheck x in -" * 9, NotUsable("many", -1)),
        ):
            self.check_fault(error, desk.say, row)
            # The desk keeps the service it had.
            self.assertEqual(self.look(desk), told)


class EventTest(DeskCase):
    def test_events(self):
        desk = desk_with()
        self.check_answers(
            desk, ("put -:2 check good < 0 1", "3"), ("come -:1.0.0 -:0", "3"), ("call a 1 check bad in -", "4"),
            ("lean", "2"), ("front", "2"),
            ("turn -:3 say + item coins 0", "2"), ("count", "6"),
            ("log", "put -:2 check good < 0 1 / come -:1.0.0 -:0 / call a 1 check bad in - / lean / front / "
                    "turn -:3 say + item coins 0"),
            ("undo", "turn -:3 say + item coins 0"), ("undo", "front"), ("undo", "lean"), ("count", "3"),
            ("take a:0", "3"), ("count", "4"),
        )

    def test_events_that_are_not_possible(self):
        desk = desk_with()
        told = self.look(desk)
        for row, event, reason in (
            ("take -:0", ("take", FIRST), "parts"), ("take -:9", ("take", (None, (9,))), "key"),
            ("lean", ("lean",), "same"),
            ("behind -:1.0.0", ("behind", INNER), "may"), ("drop -:1", ("drop", ((None, (1,)),)), "check"),
            ("put far:0 say 1", ("put", ("far", (0,)), SAY), "place"),
            ("put -:0 call far", ("put", FIRST, ("call", "far")), "program"),
        ):
            with self.assertRaises(InvalidEvent) as caught:
                desk.say(row)
            self.check_same([caught.exception.event, caught.exception.reason], [event, reason])
            self.assertEqual(caught.exception.__class__.__bases__, (ServiceError,))
            self.assertEqual(self.look(desk), told)
            self.check_same(desk.say("bars " + row), reason)

    def test_bars(self):
        desk = desk_with()
        self.check_answers(
            desk, ("bars front", "-"), ("bars lean", "same"), ("bars come -:1.0.0 -:0", "-"),
            ("bars take -:0", "parts"),
            ("bars drop -:0 -:0", "key"), ("bars call a 0", "-"), ("bars call a 1 call a", "program"), ("count", "0"),
        )
        desk.say("call a 0")
        self.check_same(desk.say("bars call a 0"), "name")
        for row, event in EVENT_TEXTS:
            due = Service(TILL).barred(event)
            self.check_same(desk_with().say("bars " + row), "-" if due is None else due)

    def test_parting(self):
        desk = desk_with()
        self.check_answers(
            desk, ("parting front", "-"), ("parting take -:0", "4"), ("parting take -:1.0.0", "0"),
            ("parting drop -:0 -:1.0.0", "0"),
            ("parting turn -:2 say 1", "2"),
        )
        with self.assertRaises(InvalidEvent) as caught:
            desk.say("parting lean")
        self.check_same([caught.exception.event, caught.exception.reason], [("lean",), "same"])
        program = ((("a", -3, -2), ("b", 4, 5)), (), (("check", "x", ("in", ((-3, 4), (-2, 4), (-2, 5)))),))
        self.check_same(desk_with(program=program).say("parting take -:0"), "-3,5")

    def test_forty_events(self):
        desk = desk_with(*[("turn", FIRST, FULL)] * 40)
        self.check_answers(desk, ("count", "40"), ("bars front", "full"))
        self.assertRaises(InvalidEvent, desk.say, "front")
        self.check_answers(desk, ("undo", "turn -:0 check full < item coins 4"), ("front", "2"))


class AskingTest(DeskCase):
    def test_told(self):
        desk = desk_with()
        self.check_answers(desk, ("told 0", "- none"), ("told 1", "- none"), ("told 2", "0 -"), ("told 3", "1 -"), ("told 4", "- full"))
        program = (SIX, (), (("say", ("-", ("item", "a"), 3)), ("say", ("item", "b")), ("check", "low", ("<", ("item", "a"), 3))))
        desk = desk_with(program=program)
        self.check_answers(desk, ("told 0,0", "-3,0 -"), ("told 5,1", "2,1 low"), ("told 3,5", "0,5 low"))
        self.check_answers(desk_with(program=coins()), ("told 0", "- -"))
        # What was promised, whatever there is now.
        desk = desk_with(("front",))
        self.check_same(desk.say("told 1"), "- none")

    def test_told_of_what_is_no_state(self):
        desk = desk_with()
        for text, state in (("5", (5,)), ("-1", (-1,)), ("1,1", (1, 1)), ("0,0,0", (0, 0, 0)), ("9" * 60, (BIG,))):
            with self.assertRaises(InvalidState) as caught:
                desk.say(f"told {text}")
            self.check_same(caught.exception.state, state)
        self.check_no_row(desk, "told " + "9" * 61)

    def test_undo_count_and_log(self):
        desk = desk_with()
        self.check_fault(NothingToUndo(0), desk.say, "undo")
        self.check_answers(desk, ("count", "0"), ("log", "-"), ("front", "2"), ("count", "1"), ("log", "front"))
        self.check_answers(desk, ("undo", "front"), ("count", "0"), ("log", "-"))
        self.check_fault(NothingToUndo(0), desk.say, "undo")

    def test_program(self):
        lines = [
            "item coins 0 4", "main", "check full < item coins 4",
            "repeat 2 2 check none < 0 item coins set coins - item coins 1", "say item coins",
        ]
        self.check_same(desk_with().say("program"), " / ".join(lines))
        self.check_same(desk_with(program=coins()).say("program"), "item coins 0 4 / main")
        program = coins(calls=(("a", ()), ("b", (SAY,))))
        self.check_same(desk_with(program=program).say("program"), "item coins 0 4 / part a / part b / say 1 / main")

    def test_checks_and_idle(self):
        self.check_answers(desk_with(), ("checks", "-:0 -:1.0.0"), ("idle", "-"))
        self.check_answers(desk_with(program=coins()), ("checks", "-"), ("idle", "-"))
        program = coins(FULL, GOOD, ("if", FULL[2], (), (BAD,)), calls=(("a", (BAD, SAY)),))
        self.check_answers(desk_with(program=program), ("checks", "a:0 -:0 -:1 -:2.1.0"), ("idle", "a:0 -:1 -:2.1.0"))

    def test_words(self):
        self.check_answers(desk_with(), ("words", "full none"))
        self.check_answers(desk_with(program=coins(GOOD)), ("words", "-"))
        self.check_answers(desk_with(program=coins(BAD, FULL)), ("words", "bad"))

    def test_fewest(self):
        self.check_answers(desk_with(), ("fewest", "-:0,-:1.0.0"))
        self.check_answers(desk_with(program=coins(FULL, FULL, NONE)), ("fewest", "-:0,-:2 -:1,-:2"))
        # One set, with nothing in it.
        self.check_answers(desk_with(program=coins()), ("fewest", "-"))
        self.check_answers(desk_with(program=coins(GOOD)), ("fewest", "-"))
        self.check_answers(desk_with(program=coins(FULL, FULL)), ("fewest", "-:0 -:1"))

    def test_fronts_and_table(self):
        self.check_answers(desk_with(), ("fronts", "yes"), ("table", "full      1 -:0 / none      2 -:1.0.0"))
        self.check_answers(desk_with(program=coins(SAY, FULL)), ("fronts", "no"), ("table", "full      1 -:1"))
        self.check_answers(desk_with(program=coins(("say", COINS))), ("fronts", "yes"), ("table", "-"))


class RowsTest(DeskCase):
    def test_strings_that_are_no_row(self):
        desk = desk_with(("front",))
        told = self.look(desk)
        for row in NO_ROWS:
            self.check_no_row(desk, row)
        for word in NO_KEYS:
            for row in (f"take {word}", f"bars take {word}", f"parting behind {word}"):
                self.check_no_row(desk, row)
        for row, event in EVENT_TEXTS:
            for wrong in (row + " ", " " + row, row + "\n", row + "\nlean", "bars  " + row, "told " + row, row + " x"):
                self.check_no_row(desk, wrong)
        self.assertEqual(self.look(desk), told)

    def test_no_row_ahead_of_all_other_errors(self):
        # No service could be made of it, and there is one line too many.
        for desk in (Desk(), desk_with()):
            self.check_no_row(desk, "service 2\nitem a 1 0\nmain\nlean")
            self.check_no_row(desk, "service 3\nitem a 1 0\nmain\ncall x y")
        desk = desk_with(*[("turn", FIRST, FULL)] * 40)
        self.check_no_row(desk, "take -:9 x")
        self.check_no_row(Desk(), "told 9")

    def test_steps_too_deep_to_be_read(self):
        desk = desk_with()
        deep = "repeat 1 1 " * 31
        self.check_no_row(desk, f"put -:0 {deep}say 1")
        self.check_no_row(desk, f"bars put -:0 {deep}say 1")


class CountsTest(DeskCase):
    def test_counts(self):
        desk = Desk()
        self.check_same(desk.counts(), (0, 0))
        rows = (
            "x", "count", TILL_ROW, "count", "lean", "front", "undo", "undo", "told 9", "told 1", "bars lean", "parting lean", "",
            "service 2\nitem a 1 0\nmain",
        )
        for k, row in enumerate(rows):
            try:
                desk.say(row=row)
            except FaultError:
                pass
            self.check_same([desk.counts(), desk.counts()], [(k + 1, k + 1)] * 2)

    def test_desks_do_not_touch_each_other(self):
        one, other = desk_with(), desk_with()
        one.say("front")
        self.check_same([one.say("count"), other.say("count"), one.counts(), other.counts()], ["1", "0", (3, 3), (2, 2)])
        self.check_no_row(Desk(), "count")


class ChanceTest(DeskCase):
    def test_as_a_service_does(self):
        maker = Maker(41)
        for program in [TILL, SMALL] + servable(made_programs(50, seed=19)):
            desk, service = desk_with(program=program), Service(program)
            for _ in range(15):
                event = made_event(maker, service.program)
                line = event_line(event)
                reason = service.barred(event)
                self.check_same(desk.say("bars " + line), "-" if reason is None else reason)
                if reason == "parts":
                    self.check_same(desk.say("parting " + line), ",".join([str(k) for k in service.parting(event)]))
                if reason is None:
                    self.check_same([desk.say("parting " + line), desk.say(line)], ["-", str(service.go(event))])
                else:
                    self.assertRaises(InvalidEvent, desk.say, line)
            self.check_state(desk, service)

    def check_state(self, desk, service):
        self.check_answers(
            desk, ("count", str(len(service))), ("log", str(service)),
            ("program", program_text(service.program).replace("\n", " / ")),
            ("checks", " ".join([key_text(key) for key in service.checks]) or "-"),
            ("idle", " ".join([key_text(key) for key in service.idle()]) or "-"),
            ("words", " ".join(service.words()) or "-"),
            ("fewest", " ".join([",".join([key_text(key) for key in row]) or "-" for row in service.fewest()])),
            ("fronts", "yes" if service.can_front() else "no"), ("table", " / ".join(service.table()) or "-"),
        )
        for state in all_states(service.first[0]):
            said, word = service[state]
            row = "told " + ",".join([str(k) for k in state])
            self.check_same(desk.say(row), (",".join([str(k) for k in said]) or "-") + " " + (word or "-"))

    def test_programs_beyond_the_limits(self):
        self.check_fault(NotUsable("many", -1), Desk().say, "\n".join(log_lines((("service", NESTED),))))


if __name__ == "__main__":
    unittest.main()
