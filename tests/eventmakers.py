"""Events that are made by chance, and what becomes of them, told in another way than the package does."""

import re

from firstfault.changes import with_step, with_step_ahead, without_step
from firstfault.coming import come, may_come, places_for
from firstfault.dropping import dropped, fewest_checks
from firstfault.errors import InvalidPaper
from firstfault.fronting import fronted
from firstfault.gobehind import gone_behind
from firstfault.programchecker import lets_program
from makers import keys_of_checks, slow_tolds, steps_by_key
from samples import BAD_NAMES, BAD_TUPLES_OF_STEPS, FULL, JUNK, LESS, NESTED, NO_PLACES

SAY = ("say", 1)
KEY = (None, (0,))
# NESTED without its last step, which would be one too many.
SMALL = NESTED[:2] + (NESTED[2][:2],)
WORDS = ("put", "take", "turn", "come", "behind", "drop", "lean", "front", "call")
# Keys by form, though keys of no program of the tests.
FAR_KEYS = (("far", (0,)), (None, (9,)), (None, (0, 0, 0, 0, 0)), (None, (0, 1)))
EVENTS = (
    ("put", KEY, SAY), ("take", KEY), ("turn", KEY, SAY), ("come", KEY, (None, (1,))), ("behind", KEY),
    ("drop", (KEY,)), ("drop", (KEY, (None, (1,)))), ("lean",), ("front",), ("call", "new", ()),
    ("call", "new", (SAY, ("call", "far"))),
)
NO_STEPS = JUNK + (0, 1, ("say",), ("say", True), ("set", "A", 1), ["say", 1], ("repeat", 1, [SAY]), ("check", "x", 1), (SAY,))


def is_key_by_form(thing):
    """Whether any value is a pair of None or a name and a nonempty tuple of numbers."""
    if not isinstance(thing, tuple) or len(thing) != 2 or not isinstance(thing[1], tuple) or not thing[1]:
        return False
    if thing[0] is not None and not (isinstance(thing[0], str) and re.fullmatch("[a-z]{1,8}", thing[0])):
        return False
    return all([isinstance(k, int) and not isinstance(k, bool) and k >= 0 for k in thing[1]])


def events_out_of_kind():
    """Return the list of values that are near to events, but none by kind."""
    found = list(JUNK) + [0, 1, -1, "lean", "front", KEY, LESS, FULL, ("lean", None), ("lean", ()), ("lean", KEY), ["lean"]]
    for event in EVENTS:
        found.extend([event[:-1] if len(event) > 1 else (), event + (KEY,), event + (None,), list(event), event[1:], (event,)])
        found.extend([(word,) + event[1:] for word in (event[0].upper(), event[0] + "s", "", None, 0, True, (event[0],), [event[0]])])
    for key in [thing for thing in NO_PLACES if not is_key_by_form(thing)]:
        found.extend([("put", key, SAY), ("take", key), ("turn", key, SAY), ("come", key, KEY), ("come", KEY, key), ("behind", key)])
        found.extend([("drop", (key,)), ("drop", (KEY, key)), ("drop", (key, KEY))])
    for keys in ((), [], [KEY], KEY, None, "", "-:0", 1, ((KEY,),)):
        found.append(("drop", keys))
    for step in NO_STEPS:
        found.extend([("put", KEY, step), ("turn", KEY, step)])
    for steps in BAD_TUPLES_OF_STEPS:
        found.append(("call", "new", steps))
    for name in BAD_NAMES + (None, True, 1, (), ["new"], ("new",)):
        found.append(("call", name, ()))
    return found


def places_of(program):
    """Return the list of all keys, and of what is right behind the last of any steps."""
    items, calls, steps = program
    found = []
    for part, own in calls + ((None, steps),):
        due = [((), own)]
        while due:
            path, inner = due.pop()
            found.extend([(part, path + (k,)) for k in range(len(inner) + 1)])
            for k, step in enumerate(inner):
                if step[0] in ("if", "repeat"):
                    due.extend([(path + (k, j), more) for j, more in enumerate(step[2:])])
    return found


def is_outside(program, key):
    steps = steps_by_key(program)
    around = [steps[(key[0], key[1][:k])][0] for k in range(1, len(key[1]), 2)]
    return key[0] is None and "repeat" not in around


def slow_reason(program, promise, many, event):
    """Return the reason for which an event by kind is not possible, or None, and the program behind it.

    The latter is None unless the event is possible or refused for "parts".
    """
    if many >= 40:
        return "full", None
    steps = steps_by_key(program)
    word = event[0]
    if word in ("take", "turn", "come", "behind", "drop"):
        keys = list(event[1]) if word == "drop" else [event[1]]
        if any(keys.count(key) > 1 or key not in steps for key in keys):
            return "key", None
        if word in ("come", "behind", "drop") and any(steps[key][0] != "check" for key in keys):
            return "check", None
    if word == "put" and event[1] not in places_of(program):
        return "place", None
    if word == "come" and (event[2] not in steps or not is_outside(program, event[2])):
        return "place", None
    if word == "behind":
        part, path = event[1]
        if steps.get((part, path[:-1] + (path[-1] + 1,)), ("none",))[0] != "set":
            return "place", None
    if word == "call" and event[1] in dict(program[1]):
        return "name", None
    return slow_rest(program, promise, event)


def slow_rest(program, promise, event):
    """As slow_reason, for the reasons that hang on the program behind the event."""
    word = event[0]
    if word in ("come", "behind", "front", "lean"):
        later = slow_same(program, event)
        return (None, later) if later is not None else ("same" if word == "lean" else "may", None)
    try:
        later = slow_other(program, event)
        size = lets_program(later)
    except InvalidPaper:
        return "program", None
    too_many = size > 14 or len(keys_of_checks(later)) > 8 or len(later[1]) > 2
    if word in ("put", "turn", "call") and too_many:
        return "many", None
    if word != "call" and slow_tolds(later) != promise:
        return "parts", later
    return None, later


def slow_same(program, event):
    """Return the program behind an event that tells the same, or None."""
    if event[0] == "come":
        return come(program, *event[1:]) if may_come(program, *event[1:]) else None
    if event[0] == "behind":
        return gone_behind(program, event[1])
    if event[0] == "front":
        return fronted(program)
    kept = fewest_checks(program)[0]
    gone = [key for key in keys_of_checks(program) if key not in kept]
    return dropped(program, *gone) if gone else None


def slow_other(program, event):
    """Return the program behind any other event, or what is none."""
    items, calls, steps = program
    if event[0] == "put":
        return with_step_ahead(program, *event[1:])
    if event[0] == "turn":
        return with_step(program, *event[1:])
    if event[0] == "take":
        return without_step(program, event[1])
    if event[0] == "drop":
        return dropped(program, *event[1])
    return items, calls + (event[1:],), steps


def servable(programs):
    """Return the list of those programs of which a service can be made."""
    return [program for program in programs if lets_program(program) <= 14 and len(keys_of_checks(program)) <= 8]


def made_event(maker, program):
    """Return an event by kind, often a possible one, for the program."""
    chance = maker.chance
    maker.items = program[0]
    maker.many = 4
    known = [name for name, _ in program[1]]
    keys = list(steps_by_key(program))
    checks = keys_of_checks(program)
    some = (checks if chance.random() < 0.8 and checks else keys) or [KEY]
    word = chance.choice(WORDS)
    if word in ("lean", "front"):
        return (word,)
    if word == "call":
        return word, chance.choice(["new", "old", "part", "zed"]), maker.steps(known + (["far"] if chance.random() < 0.1 else []), 2)
    if word == "drop":
        return word, tuple([chance.choice(some + list(FAR_KEYS[:1])) for _ in range(chance.randint(1, 2))])
    key = chance.choice(some * 3 + list(FAR_KEYS))
    if word == "put":
        place = chance.choice(places_of(program) * 2 + list(FAR_KEYS))
        return word, place, maker.step(known, 2)
    if word == "turn":
        return word, key, maker.step(known, 2) if chance.random() < 0.5 else same_step(maker, steps_by_key(program), key)
    if word == "come":
        places = list(places_for(program, key)) if key in checks and chance.random() < 0.6 else []
        return word, key, chance.choice(places or keys * 3 + list(FAR_KEYS))
    if word == "behind" and chance.random() < 0.8:
        key = chance.choice(ahead_of_sets(program) or [key])
    return word, key


def ahead_of_sets(program):
    """Return the list of the keys of all checks with a "set" right behind them."""
    steps = steps_by_key(program)
    later = [(part, path[:-1] + (path[-1] + 1,)) for part, path in keys_of_checks(program)]
    return [key for key, place in zip(keys_of_checks(program), later) if steps.get(place, ("none",))[0] == "set"]


def same_step(maker, steps, key):
    """Return a step that does the same as the one with the key, if there is one."""
    step = steps.get(key, SAY)
    if step[0] == "check":
        return step[:2] + (("and", step[2], ("=", 0, 0)),)
    return ("if", ("=", 0, 0), (step,), ()) if maker.chance.random() < 0.5 else step
