"""What a desk answers about its service."""

from firstfault.eventtexts import event_line
from firstfault.programtexts import key_text, program_text


def answer_undo(service):
    """Take back the last event, and return its line."""
    return event_line(service.undo())


def answer_count(service):
    """Return how many events there were."""
    return str(len(service))


def answer_log(service):
    """Return the lines of the events."""
    return str(service)


def answer_program(service):
    """Return the lines of the program."""
    return " / ".join(program_text(service.program).split("\n"))


def answer_checks(service):
    """Return the keys of all checks."""
    return spaced([key_text(key) for key in service.checks])


def answer_idle(service):
    """Return the keys of the checks by which no run complains."""
    return spaced([key_text(key) for key in service.idle()])


def answer_words(service):
    """Return the words that are told."""
    return spaced(service.words())


def answer_fewest(service):
    """Return the sets of the fewest checks."""
    return spaced([with_commas([key_text(key) for key in keys]) for keys in service.fewest()])


def answer_fronts(service):
    """Return whether all checks can be put in front."""
    return "yes" if service.can_front() else "no"


def answer_table(service):
    """Return the strings of the table."""
    rows = service.table()
    return " / ".join(rows) if rows else "-"


# For each row of one word: what answers it.
PLAIN_ANSWERS = {
    "undo": answer_undo,
    "count": answer_count,
    "log": answer_log,
    "program": answer_program,
    "checks": answer_checks,
    "idle": answer_idle,
    "words": answer_words,
    "fewest": answer_fewest,
    "fronts": answer_fronts,
    "table": answer_table,
}


def answer_about(service, word, thing):
    """Return the answer to a row that has a word and tells an event or a state."""
    if word == "event":
        return str(service.go(thing))
    if word == "bars":
        return word_text(service.barred(thing))
    if word == "parting":
        state = service.parting(thing)
        return word_text(None) if state is None else integers_text(state)
    said, told_word = service[thing]
    return f"{integers_text(said)} {word_text(told_word)}"


def spaced(words):
    """Return words, or nothing, as one string."""
    return " ".join(words) if words else "-"


def with_commas(words):
    """Return words, or nothing, as one word."""
    return ",".join(words) if words else "-"


def integers_text(numbers):
    """Return a tuple of integers as one word."""
    return with_commas([str(number) for number in numbers])


def word_text(word):
    """Return a word, or None, as one word."""
    return "-" if word is None else word
