"""Values that several tests use: the till of DOC.md, and values of every kind that are something else."""

BIG = int("9" * 60)

ITEMS = (("coins", 0, 4),)
COINS = ("item", "coins")
LESS = ("set", "coins", ("-", COINS, 1))
FULL = ("check", "full", ("<", COINS, 4))
NONE = ("check", "none", ("<", 0, COINS))
TILL = (ITEMS, (), (FULL, ("repeat", 2, (NONE, LESS)), ("say", COINS)))

# A check that no state passes, and one that each does.
BAD = ("check", "bad", ("in", ()))
GOOD = ("check", "good", ("<", 0, 1))
SIX = (("a", 0, 5), ("b", 0, 5))

# A program with calls, and with steps within steps in them and in the program itself.
PAIR = (("a", -2, 2), ("b", 0, 0))
SAY = ("say", ("*", ("item", "a"), -1))
INNER = ("if", ("in", ((-2, 0), (1, 0))), (SAY, ("set", "b", BIG)), (("repeat", ("item", "b"), (SAY,)),))
CALLS = (("zed", ()), ("one", (INNER, ("call", "zed"))))
NESTED = (
    PAIR,
    CALLS,
    (
        ("if", ("not", ("=", 1, ("item", "a"))), (), (("call", "one"), ("check", "x", ("<", 0, 1)))),
        ("repeat", -BIG, (("if", ("and", ("<", 0, 1), ("=", 0, 0)), (SAY,), (LESS[:1] + ("a", 0),)), SAY)),
        ("call", "zed"),
    ),
)

# All its keys, in order.
NESTED_KEYS = (
    ("one", (0,)), ("one", (0, 0, 0)), ("one", (0, 0, 1)), ("one", (0, 1, 0)), ("one", (0, 1, 0, 0, 0)), ("one", (1,)),
    (None, (0,)), (None, (0, 1, 0)), (None, (0, 1, 1)),
    (None, (1,)), (None, (1, 0, 0)), (None, (1, 0, 0, 0, 0)), (None, (1, 0, 0, 1, 0)), (None, (1, 0, 1)),
    (None, (2,)),
)
# Values that are no key of NESTED; those behind a last step are places.
PLACES = (
    ("zed", (0,)), ("one", (2,)), ("one", (0, 0, 2)), ("one", (0, 1, 1)), ("one", (0, 1, 0, 0, 1)),
    (None, (3,)), (None, (0, 0, 0)), (None, (0, 1, 2)), (None, (1, 0, 2)), (None, (1, 0, 0, 0, 1)), (None, (1, 0, 0, 1, 1)),
)
NO_PLACES = (
    # another part
    ("two", (0,)), ("main", (0,)), ("", (0,)), (0, (0,)), (1, (0,)), (True, (0,)), (False, (0,)), ((), (0,)), (["one"], (0,)),
    (("one",), (0,)), ("ONE", (0,)), (("one", ()), (0,)),
    # too short, or with no step behind the number of the steps within a step
    (None, ()), ("one", ()), (None, (0, 0)), (None, (0, 1)), (None, (1, 0)), (None, (1, 0, 0, 0)), ("one", (0, 0)),
    # too long: through a step without steps in it, or through a place behind the last one
    (None, (2, 0, 0)), (None, (0, 1, 1, 0, 0)), ("one", (1, 0, 0)), (None, (3, 0, 0)), (None, (0, 1, 2, 0, 0)),
    (None, (1, 0, 0, 0, 0, 0, 0)), ("zed", (0, 0, 0)), (None, (0, 0, 0, 0, 0)), ("two", (0, 0, 0)),
    (None, (2, 0, 0, 0, 0)), (None, (9, 0, 0, 0, 0, 1, 0)),
    # behind the last one but one, and first or second steps that are not there
    (None, (4,)), (None, (BIG,)), ("zed", (1,)), ("one", (3,)), ("one", (BIG,)), (None, (0, 0, 1)), (None, (0, 1, 3)),
    (None, (1, 1, 0)), (None, (0, 2, 0)), (None, (0, BIG, 0)), (None, (1, 0, 3)), (None, (BIG, 0, 0)), ("one", (0, 2, 0)),
    # below 0
    (None, (-1,)), ("one", (-1,)), (None, (0, -1, 0)), (None, (0, 1, -1)), (None, (-2, 0, 0)), (None, (-BIG,)),
    # True is not 1, and False not 0
    (None, (True,)), (None, (False,)), (None, (0, True, 0)), (None, (0, 1, False)), (None, (1, False, 0)), ("one", (False,)),
    # other kinds
    (None, [0]), [None, (0,)], [None, [0]], (None, 0), (None,), (None, (0,), 0), (None, "0"), (None, ("0",)), (None, (None,)),
    (None, ((0,),)), (None, ([0],)), ((None, (0,)),), "-:0", (None, None), (0,), ((0,), None), (None, (0, "1", 0)), (None, "a"),
)

INTEGERS = (0, 1, -1, 21, BIG, -BIG)
NAMES = ("a", "z", "item", "abcdefgh")
BAD_NAMES = (
    "", "abcdefghi", "A", "aB", "a1", "0", " ", "a ", " a", "a b", "a\n", "\n", "`", "{", "@", "[", "a_b", "a-b", "\u00e9",
    "a" * 4000,
)
BOOLS = (True, False)
# Neither integers nor names, numbers, conditions, steps, states of items or keys.
JUNK = (
    None, (), [], (None,), [None], ((),), [()], ((), ()), (True,), (True, True), ("item",), ["item", "a"], [0], [(0,)],
    (0, [1]), ("in", [(0,)]), ("no", 1, 1), ("", 1), ((1,), 1, 1), ([1], 1, 1), (None, 1, 1), (1, 1, 1), (True, 1, 1),
    (["+"], 1, 1), ["+", 1, 1], ["say", 1], ["=", 1, 1],
) + BOOLS + BAD_NAMES

COUNTS = INTEGERS + (
    ("item", "a"), ("item", "item"), ("item", "abcdefgh"),
    ("+", 1, 2), ("-", -1, BIG), ("*", ("item", "z"), ("+", 0, ("-", 1, 1))),
)
STATE_SETS = ((), ((0,),), ((-1,), (0,), (1,)), ((0,), (0, 0), (1,)), ((-BIG, BIG), (BIG, -BIG)),
              tuple([(a, b) for a in range(6) for b in range(6)]))
CONDITIONS = tuple([("in", rows) for rows in STATE_SETS]) + (
    ("=", 1, 2), ("<", ("item", "a"), ("*", 1, 1)),
    ("and", ("=", 1, 2), ("<", 1, 2)), ("or", ("in", ()), ("in", ())), ("not", ("=", 0, 0)),
    ("not", ("and", ("or", ("not", ("<", 1, 1)), ("in", ((0,),))), ("not", ("in", ())))),
)
BAD_STATE_SETS = (
    None, True, 0, "", "ab", [], [(0,)], ((),), ((), (0,)), ((0,), ()), ((0,), (0,)), ((1,), (0,)), ((0,), (2,), (1,)),
    ((0, 0), (0,)), ((True,),), ((0,), (True,)), ((0, False),), ((0,), [1]), ([0],), ((None,),), (("a",),), (0,), (0, 1),
    (((0,),),), ((0,), None), "in", (0, (0,)), ((0,), 1),
)
STEPS = (
    ("check", "full", ("=", 1, 1)), ("say", 1), ("say", ("item", "a")), ("set", "a", -1), ("set", "set", ("+", 1, 1)),
    ("if", ("in", ()), (), ()), ("if", ("<", 1, 1), (("say", 1),), (("call", "a"), ("say", 2))),
    ("repeat", 0, ()), ("repeat", ("item", "a"), (("repeat", -1, (("check", "a", ("in", ())),)),)), ("call", "a"),
)
TUPLES_OF_STEPS = ((), (("say", 1),), STEPS)
BAD_TUPLES_OF_STEPS = (
    None, True, 0, "", "say", [], [("say", 1)], ("say", 1), (1,), (None,), ((),), ([],), (["say", 1],), (("say", True),),
    (("say", 1), 1), (("say", 1), ("say",)), ((("say", 1),),), (("call", "a"), ("call", "A")),
)


def coins(*steps, calls=()):
    """A program over the coins."""
    return ITEMS, calls, steps


def nested(thing, wrap, many):
    """Return the thing with wrap done to it so many times."""
    for _ in range(many):
        thing = wrap(thing)
    return thing


def with_each_changed(thing, k, others):
    """Return the tuples that thing becomes with each of the others in place of element k."""
    return [thing[:k] + (other,) + thing[k + 1:] for other in others]


def with_wrong_length(thing):
    """Return tuples like the thing, but one element shorter and longer, and a list of its elements."""
    return [thing[:-1], thing + (thing[-1],), thing + (1,), thing + ((),), list(thing)]
