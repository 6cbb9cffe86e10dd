"""Expressions, steps, keys and programs that are read from text."""

from firstfault.conditions import WORDS
from firstfault.errors import InvalidText
from firstfault.steps import STEP_KINDS
from firstfault.wordlines import WordLine, is_integer_word

# A part or a step may stand within as many others as this.
DEEPEST = 30


def expression_read(text, *, line=0, field=0):
    """Return the number or the condition by form that a string writes; InvalidText if it writes none."""
    words = WordLine(text, line, field)
    expression = take_part(words, ("number", "condition"), 0)
    words.refuse_rest()
    return expression


def step_read(text, *, line=0, field=0):
    """Return the step by form that a string writes; InvalidText if it writes none."""
    words = WordLine(text, line, field)
    step = take_step(words, 0)
    words.refuse_rest()
    return step


def key_read(text, *, line=0, field=0):
    """Return the key by form that a string writes; InvalidText if it writes none."""
    words = WordLine(text, line, field)
    key = words.take_key()
    words.refuse_rest()
    return key


def program_read(text, *, line=0):
    """Return what a string writes that has the shape of a program and an item; InvalidText if it writes none."""
    return program_in_lines(text.split("\n"), line)


def program_in_lines(lines, line):
    """Return what a list of lines, the first of which has the index line, writes as program_read tells."""
    items = []
    # Pairs of a name, None for the steps of the program, and the list of the steps.
    blocks = []
    for k, text in enumerate(lines):
        words = WordLine(text, line + k, 0)
        take_line(words, items, blocks)
        words.refuse_rest()
    if not ends_in_main(blocks):
        raise InvalidText(line + len(lines), 0)
    calls = [(name, tuple(steps)) for name, steps in blocks[:-1]]
    return tuple(items), tuple(calls), tuple(blocks[-1][1])


def take_line(words, items, blocks):
    """Take a line of a program, and put what it writes to the items and blocks of those before it."""
    word = words.upcoming()
    if not items or word == "item" and not blocks:
        items.append(take_item(words))
    elif word == "part" and not ends_in_main(blocks):
        words.take_word()
        blocks.append((words.take_name(), []))
    elif word == "main" and not ends_in_main(blocks):
        words.take_word()
        blocks.append((None, []))
    elif blocks:
        blocks[-1][1].append(take_step(words, 0))
    else:
        words.refuse()


def ends_in_main(blocks):
    """Whether the last of the blocks is that of the steps of the program."""
    return len(blocks) > 0 and blocks[-1][0] is None


def take_item(words):
    """Take a whole line of an item, and return the triple that it writes."""
    if words.upcoming() != "item":
        words.refuse()
    words.take_word()
    name = words.take_name()
    low = words.take_integer()
    return name, low, words.take_integer()


def take_step(words, depth):
    """Take a step that stands within as many others as depth tells, and return it."""
    word = words.upcoming()
    if depth > DEEPEST or word not in STEP_KINDS:
        words.refuse()
    step = (words.take_word(),)
    for kind in STEP_KINDS[word]:
        step = step + (take_of_kind(words, kind, depth + 1),)
    return step


def take_of_kind(words, kind, depth):
    """Take what stands in a step and is of this kind, within as many others as depth tells, and return it."""
    if kind == "name":
        return words.take_name()
    return take_steps(words, depth) if kind == "steps" else take_part(words, (kind,), depth)


def take_steps(words, depth):
    """Take the number of steps and then these, within as many others as depth tells, and return them."""
    many = words.take_number(0)
    steps = []
    for _ in range(many):
        steps.append(take_step(words, depth))
    return tuple(steps)


def take_part(words, kinds, depth):
    """Take a part of one of these kinds that stands within as many others as depth tells, and return it."""
    word = words.upcoming()
    if depth > DEEPEST or kind_begun(word) not in kinds:
        words.refuse()
    if is_integer_word(word):
        return words.take_integer()
    words.take_word()
    if word == "item":
        return word, words.take_name()
    if word == "in":
        return word, words.take_states()
    part = (word,)
    for kind in WORDS[word][1]:
        part = part + (take_part(words, (kind,), depth + 1),)
    return part


def kind_begun(word):
    """Return the kind of the part that begins with this word, None if none does."""
    if word in WORDS:
        return WORDS[word][0]
    if word == "in":
        return "condition"
    return "number" if word == "item" or is_integer_word(word) else None
