"""Expressions, steps, keys and programs as text."""

from firstfault.conditions import parts_of
from firstfault.kinds import is_integer
from firstfault.steps import STEP_KINDS


def expression_text(expression):
    """Return a number or a condition by form as text."""
    return " ".join(expression_words(expression))


def step_text(step):
    """Return a step by form as text."""
    return " ".join(step_words(step))


def key_text(key):
    """Return a key by form as text."""
    part, path = key
    name = "-" if part is None else part
    numbers = ".".join([str(k) for k in path])
    return f"{name}:{numbers}"


def program_text(program):
    """Return a program, or what has the shape of one, as text."""
    items, calls, steps = program
    lines = [f"item {name} {low} {high}" for name, low, high in items]
    for name, own in calls:
        lines.append(f"part {name}")
        lines.extend([step_text(step) for step in own])
    lines.append("main")
    lines.extend([step_text(step) for step in steps])
    return "\n".join(lines)


def expression_words(expression):
    """Return the list of the words that write a number or a condition by form."""
    words = []
    for path, part in parts_of(expression):
        words.extend(part_words(part))
    return words


def part_words(part):
    """Return the list of the words of a part that stand ahead of those of the parts in it."""
    if is_integer(part):
        return [str(part)]
    if part[0] == "item":
        return ["item", part[1]]
    if part[0] == "in":
        return ["in", states_word(part[1])]
    return [part[0]]


def states_word(states):
    """Return the word that writes a set of tuples of integers."""
    rows = [",".join([str(number) for number in state]) for state in states]
    return ";".join(rows) if rows else "-"


def step_words(step):
    """Return the list of the words that write a step by form."""
    words = [step[0]]
    for kind, thing in zip(STEP_KINDS[step[0]], step[1:]):
        words.extend(words_of_kind(kind, thing))
    return words


def words_of_kind(kind, thing):
    """Return the list of the words that write what stands in a step, which is of this kind."""
    if kind == "name":
        return [thing]
    return steps_words(thing) if kind == "steps" else expression_words(thing)


def steps_words(steps):
    """Return the list of the words that write the number of the steps and then these."""
    words = [str(len(steps))]
    for step in steps:
        words.extend(step_words(step))
    return words
