"""Live programs under a promise: what is told from each state stays as it was at the beginning."""

from firstfault.comparing import words_told
from firstfault.dropping import checks_of, fewest_checks
from firstfault.errors import InvalidEvent, InvalidState, NothingToUndo, NotUsable
from firstfault.events import is_event
from firstfault.eventtexts import event_line
from firstfault.fronting import may_front
from firstfault.happenings import is_within_limits, outcome, parted_state, promise_of
from firstfault.keys import has_key, step_at
from firstfault.kinds import is_state
from firstfault.programchecker import lets_program
from firstfault.programtexts import key_text
from firstfault.running import complaints_by


class Service:
    """A program that events change, and the promise that they keep."""

    MOST = 40
    STEPS = 14
    CHECKS = 8
    CALLS = 2

    def __init__(self, program):
        check_first(program)
        self._promise = promise_of(program)
        self._events = []
        # The program at the beginning, and the one behind each event.
        self._programs = [program]
        self._calls_done = 0

    @property
    def first(self):
        """The program at the beginning."""
        return self._programs[0]

    @property
    def program(self):
        """The present program."""
        return self._programs[-1]

    @property
    def promise(self):
        """The pairs (state, told) for all states."""
        return self._promise

    @property
    def checks(self):
        """The keys of all checks of the present program."""
        return checks_of(self._programs[-1])

    def __getitem__(self, state):
        """Return what was promised to be told from a state; InvalidState for any other value."""
        if not is_state(self._programs[0][0], state):
            raise InvalidState(state)
        return [told for start, told in self._promise if start == state][0]

    def __iter__(self):
        raise TypeError("a service is not iterated over")

    def __contains__(self, key):
        """Whether any value is a key of the present program."""
        return has_key(self._programs[-1], key)

    def __len__(self):
        return len(self._events)

    def __eq__(self, other):
        if not isinstance(other, Service):
            return False
        return self._programs[0] == other._programs[0] and self._events == other._events

    def __str__(self):
        if not self._events:
            return "-"
        return " / ".join([event_line(event) for event in self._events])

    def __call__(self, event):
        """Do any event, as go does."""
        return self.go(event)

    def put(self, place, step):
        """Put a step ahead of a place."""
        return self.go(("put", place, step))

    def take(self, key):
        """Take a step out."""
        return self.go(("take", key))

    def turn(self, key, step):
        """Put a step in place of another one."""
        return self.go(("turn", key, step))

    def come(self, key, place):
        """Bring a check to an earlier place."""
        return self.go(("come", key, place))

    def behind(self, key):
        """Bring a check behind the "set" that is the next step."""
        return self.go(("behind", key))

    def drop(self, *keys):
        """Drop checks."""
        return self.go(("drop", keys))

    def lean(self):
        """Drop all checks but the first of the sets of the fewest."""
        return self.go(("lean",))

    def front(self):
        """Put all checks in front."""
        return self.go(("front",))

    def add_call(self, name, steps):
        """Put a call behind the other ones."""
        return self.go(("call", name, steps))

    def go(self, event):
        """Do an event, and return how many checks there are then; InvalidEvent if it is not possible."""
        self._calls_done = self._calls_done + 1
        return self.happen(event)

    def happen(self, event):
        """Do an event as go does, but do not count it."""
        program = self.program_then(self._programs[-1], len(self._events), event)
        self._events.append(event)
        self._programs.append(program)
        return len(self.checks)

    def tried(self, *events):
        """Return the program behind the events, as if they were done in order; the first error if there is one."""
        program = self._programs[-1]
        for k, event in enumerate(events):
            program = self.program_then(program, len(self._events) + k, event)
        return program

    def undo(self):
        """Take back the last event and return it; NothingToUndo if there is none."""
        self._calls_done = self._calls_done + 1
        if not self._events:
            raise NothingToUndo(0)
        self._programs.pop()
        return self._events.pop()

    def do_all(self, *events, keep=False):
        """Do the events in order and return how many; with keep those before one that is not possible stay done."""
        self._calls_done = self._calls_done + 1
        many = len(self._events)
        try:
            for event in events:
                self.happen(event)
        except InvalidEvent:
            if keep is not True:
                del self._events[many:]
                del self._programs[many + 1:]
            raise
        return len(events)

    def counts(self):
        """Return how many operations were started, and how many are finished."""
        # Each one is finished, be it by an error, before another one can be started.
        return self._calls_done, self._calls_done

    def table(self):
        """Return a list with a string for each check: its word, how many states it complains about, and its key."""
        program = self._programs[-1]
        rows = [(step_at(program, key)[1], len(complaints_by(program, key)), key_text(key)) for key in self.checks]
        return [f"{word:<8} {many:>2} {key}" for word, many, key in rows]

    def barred(self, event):
        """Return the reason for which any value is not possible as an event, None if it is possible."""
        return self.outcome_of(self._programs[-1], len(self._events), event)[0]

    def parting(self, event):
        """Return the least state from which an event, refused for "parts", would let tell something else.

        None for a possible event; InvalidEvent for any other value.
        """
        reason, later = self.outcome_of(self._programs[-1], len(self._events), event)
        if reason is None:
            return None
        if reason != "parts":
            raise InvalidEvent(event, reason)
        return parted_state(self._promise, later)

    def idle(self):
        """Return the keys of the checks by which no run complains."""
        program = self._programs[-1]
        return tuple([key for key in self.checks if not complaints_by(program, key)])

    def fewest(self):
        """Return all sets of the fewest checks that leave the program alike."""
        return fewest_checks(self._programs[-1])

    def words(self):
        """Return the set of all words that are told."""
        return words_told(self._programs[-1])

    def can_front(self):
        """Whether all checks can be put in front."""
        return may_front(self._programs[-1])

    def log(self):
        """Return the tuple of the first element of the log, and the events."""
        return (("service", self._programs[0]),) + tuple(self._events)

    def program_then(self, program, many, event):
        """Return what any event makes of a program behind so many events; InvalidEvent if it is not possible."""
        reason, later = self.outcome_of(program, many, event)
        if reason is not None:
            raise InvalidEvent(event, reason)
        return later

    def outcome_of(self, program, many, event):
        """Return the pair of the reason for which any value is not possible as an event, or None, and the program then.

        It would happen to a program behind so many events.
        """
        if not is_event(event):
            return "shape", None
        if many >= Service.MOST:
            return "full", None
        return outcome(program, self._promise, limits_of_programs(), event)


def check_first(program):
    """Raise the error for which of any value no service can be made, if there is one."""
    lets_program(program)
    if not is_within_limits(program, limits_of_programs()):
        raise NotUsable("many", -1)


def limits_of_programs():
    """Return how many steps in all, checks and calls a program may have."""
    return Service.STEPS, Service.CHECKS, Service.CALLS
