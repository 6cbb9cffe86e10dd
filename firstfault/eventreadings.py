"""Events and logs that are read from lines."""

from firstfault.errors import InvalidText
from firstfault.events import EVENT_KINDS
from firstfault.programreadings import program_in_lines, take_step, take_steps
from firstfault.wordlines import WordLine

# An item and main.
FEWEST_LINES = 2


def read_event(text):
    """Return the event by kind that a string writes; InvalidText if it writes none."""
    return event_in_line(text, 0)


def read_log(lines):
    """Return the tuple of a first element and events that a list of lines writes; InvalidText if it writes none."""
    if len(lines) == 0:
        raise InvalidText(0, 0)
    many = number_of_lines(lines[0])
    program = program_in_lines(lines[1:1 + many], 1)
    if len(lines) < 1 + many:
        raise InvalidText(len(lines), 0)
    return (("service", program),) + tuple([event_in_line(lines[k], k) for k in range(1 + many, len(lines))])


def number_of_lines(text):
    """Return the number of the lines of the program that the first line of a log tells."""
    words = WordLine(text, 0, 0)
    if words.upcoming() != "service":
        words.refuse()
    words.take_word()
    many = words.take_number(FEWEST_LINES)
    words.refuse_rest()
    return many


def event_in_line(text, line):
    """Return the event by kind that the line with this index writes."""
    words = WordLine(text, line, 0)
    word = words.upcoming()
    if word not in EVENT_KINDS:
        words.refuse()
    event = (words.take_word(),)
    for kind in EVENT_KINDS[word]:
        event = event + (take_in_event(words, kind),)
    words.refuse_rest()
    return event


def take_in_event(words, kind):
    """Take what stands in an event and is of this kind, and return it."""
    if kind == "key":
        return words.take_key()
    if kind == "keys":
        return take_keys(words)
    if kind == "name":
        return words.take_name()
    return take_step(words, 0) if kind == "step" else take_steps(words, 0)


def take_keys(words):
    """Take all words that are left, one or more, which are to write keys, and return the tuple of these."""
    found = [words.take_key()]
    while not words.is_over():
        found.append(words.take_key())
    return tuple(found)
