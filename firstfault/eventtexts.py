"""Events and logs as lines."""

from firstfault.events import EVENT_KINDS
from firstfault.programtexts import key_text, program_text, step_words, steps_words


def event_line(event):
    """Return the line that writes an event by kind."""
    words = [event[0]]
    for kind, thing in zip(EVENT_KINDS[event[0]], event[1:]):
        words.extend(words_in_event(kind, thing))
    return " ".join(words)


def log_lines(log):
    """Return the list of the lines that write a log: those of its program, then one for each event."""
    own = program_text(log[0][1]).split("\n")
    return [f"service {len(own)}"] + own + [event_line(event) for event in log[1:]]


def words_in_event(kind, thing):
    """Return the list of the words that write what stands in an event, which is of this kind."""
    if kind == "key":
        return [key_text(thing)]
    if kind == "keys":
        return [key_text(key) for key in thing]
    if kind == "name":
        return [thing]
    return step_words(thing) if kind == "step" else steps_words(thing)
