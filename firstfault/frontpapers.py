"""Front papers: from which states each word is told at once, or a run that says something and then complains."""

from firstfault.comparing import states_telling, words_told
from firstfault.running import run, states_of


def front_paper(program):
    """Return a front paper of a program."""
    items = program[0]
    late = [state for state in states_of(items) if is_late(program, state)]
    if late:
        return "late", late[0]
    return "front", tuple([(word, states_telling(program, word)) for word in words_told(program)])


def is_late(program, state):
    """Whether the run from a state says something and then complains."""
    said, word = run(program, state)[0]
    return len(said) > 0 and word is not None
