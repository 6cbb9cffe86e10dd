"""Values and the texts that write them, and single words that write nothing."""

from samples import BIG

NINES = "9" * 60
A = ("item", "a")

# Words that write no integer, not even ahead of other words.
NO_INTEGERS = (
    "", "01", "00", "-0", "-01", "+1", "--1", "1.0", "1,2", "1;2", "1_0", "0x1", "1e1", "a1", "1a", "9" + NINES,
    "-9" + NINES,
    "0" * 60, "1\n", "\n1", "\n", "1\n1", "\u0661", "\u00b2", "none", "-", "-:0", "True",
)
NO_NUMBERS = NO_INTEGERS + ("-1", "-" + NINES)
NO_NAMES = ("", "A", "abcdefghi", "a1", "1", "-", "a-b", "a_b", "a.", "a:", "a\n", "\na", "\n", "a\nb", "=", "\u00e9")

COUNT_TEXTS = (
    ("0", 0), ("1", 1), ("-1", -1), ("-20", -20), ("105", 105), (NINES, BIG), ("-" + NINES, -BIG),
    ("item a", A), ("item abcdefgh", ("item", "abcdefgh")), ("item item", ("item", "item")),
    ("item in", ("item", "in")),
    ("item main", ("item", "main")), ("item not", ("item", "not")), ("item check", ("item", "check")),
    ("+ 1 2", ("+", 1, 2)), ("- 1 2", ("-", 1, 2)), ("- -1 -2", ("-", -1, -2)), ("* item a 0", ("*", A, 0)),
    ("- - - 1 2 3 4", ("-", ("-", ("-", 1, 2), 3), 4)), ("- 1 - 2 - 3 4", ("-", 1, ("-", 2, ("-", 3, 4)))),
    ("+ * item a item b - -3 item item", ("+", ("*", A, ("item", "b")), ("-", -3, ("item", "item")))),
)
STATES_TEXTS = (
    ("-", ()), ("0", ((0,),)), ("-1", ((-1,),)), ("-1;0;1", ((-1,), (0,), (1,))), ("0,0", ((0, 0),)),
    ("-2,0;-1,5;0,-5", ((-2, 0), (-1, 5), (0, -5))), ("0;0,0;1", ((0,), (0, 0), (1,))), ("1,2,3;2", ((1, 2, 3), (2,))),
    (f"-{NINES},{NINES};{NINES},-{NINES}", ((-BIG, BIG), (BIG, -BIG))), ("2;10", ((2,), (10,))),
    ("-10;-2", ((-10,), (-2,))),
)
NO_STATES = (
    "", ";", ",", "--", "-;1", "1;-", "1;", ";1", "1,", ",1", "1,,2", "1;;2", "1;1", "1;0", "10;2", "0,0;0", "1,2;1,2",
    "1,2;1,1",
    "-2;-10", "01", "-0", "1;02", "1,-0", "a", "1;a", "1,a", "9" + NINES, f"1;9{NINES}", "1\n", "1;\n2", "\n", "1.2",
    "1:2", "+1",
    "(1,)", "1;2;2", "1;3;2", "--1", "in", "none", "()",
)
CONDITION_TEXTS = tuple([(f"in {word}", ("in", states)) for word, states in STATES_TEXTS]) + (
    ("= 1 2", ("=", 1, 2)), ("= - 1 2 3", ("=", ("-", 1, 2), 3)), ("< 0 item coins", ("<", 0, ("item", "coins"))),
    ("and = 1 1 in -", ("and", ("=", 1, 1), ("in", ()))), ("or in - in 0", ("or", ("in", ()), ("in", ((0,),)))),
    ("not in -", ("not", ("in", ()))), ("not not < 1 1", ("not", ("not", ("<", 1, 1)))),
    ("and or < item a 1 not in 1;2 = * 2 3 6",
     ("and", ("or", ("<", A, 1), ("not", ("in", ((1,), (2,))))), ("=", ("*", 2, 3), 6))),
)
SAYS = ("say", 1)
STEP_TEXTS = (
    ("check full < item coins 4", ("check", "full", ("<", ("item", "coins"), 4))),
    ("check in in -", ("check", "in", ("in", ()))),
    ("check check not in -1", ("check", "check", ("not", ("in", ((-1,),))))),
    ("say 1", SAYS), ("say -1", ("say", -1)), ("say - 1 2", ("say", ("-", 1, 2))), (f"say {NINES}", ("say", BIG)),
    ("set a 1", ("set", "a", 1)), ("set set + item set -1", ("set", "set", ("+", ("item", "set"), -1))),
    ("if in - 0 0", ("if", ("in", ()), (), ())), ("if in - 1 say 1 0", ("if", ("in", ()), (SAYS,), ())),
    ("if in 1 0 1 say 1", ("if", ("in", ((1,),)), (), (SAYS,))),
    ("if = 1 2 2 say 1 call a 3 say 1 say 1 say 1", ("if", ("=", 1, 2), (SAYS, ("call", "a")), (SAYS, SAYS, SAYS))),
    ("repeat 2 0", ("repeat", 2, ())), ("repeat -1 1 say 1", ("repeat", -1, (SAYS,))),
    ("repeat + 1 1 2 repeat item a 1 say 1 if in - 0 1 repeat 0 0",
     ("repeat", ("+", 1, 1), (("repeat", A, (SAYS,)), ("if", ("in", ()), (), (("repeat", 0, ()),))))),
    ("repeat 1 11 " + " ".join(["say 1"] * 11), ("repeat", 1, (SAYS,) * 11)),
    ("call a", ("call", "a")), ("call main", ("call", "main")), ("call repeat", ("call", "repeat")),
)
KEY_TEXTS = (
    ("-:0", (None, (0,))), ("-:1.0.1", (None, (1, 0, 1))), ("a:0", ("a", (0,))), ("item:10.0.9", ("item", (10, 0, 9))),
    ("main:0.1", ("main", (0, 1))), ("abcdefgh:7", ("abcdefgh", (7,))), (f"-:{NINES}.0", (None, (BIG, 0))),
    ("-:5.6.7.8.9.10", (None, (5, 6, 7, 8, 9, 10))),
)
NO_KEYS = (
    "", ":", "-", "-:", ":0", "a", "a:", "0", "0:0", "A:0", "abcdefghi:0", "--:0", "-:-1", "-:-0", "-:01", "-:1.",
    "-:.1", "-:1..2",
    "-:1:2", "-:1,2", "-:+1", "-:a", "-::0", f"-:9{NINES}", f"-:0.9{NINES}", "-:0\n", "\n-:0", "-:0.\n1", "a\n:0",
    "\n", "-:0.00", "-.0",
    "None:0", "-:1;2",
)
ITEM_LINE = "item coins 0 4"
COINS = (("coins", 0, 4),)
# Some of them are no programs, as nothing fits.
PROGRAM_TEXTS = (
    (f"{ITEM_LINE}\nmain", (COINS, (), ())),
    (f"{ITEM_LINE}\npart a\nmain\nsay 1", (COINS, (("a", ()),), (SAYS,))),
    (f"{ITEM_LINE}\npart a\nsay 1\ncall b\npart b\npart c\nrepeat 1 1 say 1\nmain\nsay 1\nif in - 0 0",
     (COINS, (("a", (SAYS, ("call", "b"))), ("b", ()), ("c", (("repeat", 1, (SAYS,)),))), (SAYS, ("if", ("in", ()), (), ())))),
    ("item a -2 2\nitem b 0 0\nmain\nset a item b", ((("a", -2, 2), ("b", 0, 0)), (), (("set", "a", ("item", "b")),))),
    ("item item 0 1\npart item\npart part\npart main\ncall main\nmain\ncall item\ncall main",
     ((("item", 0, 1),), (("item", ()), ("part", ()), ("main", (("call", "main"),))), (("call", "item"), ("call", "main")))),
    (f"item b {NINES} -{NINES}\nitem a 1 0\nitem a 0 0\npart a\nset z item y\npart a\nmain\ncheck x in 7,7;8\ncall z",
     ((("b", BIG, -BIG), ("a", 1, 0), ("a", 0, 0)), (("a", (("set", "z", ("item", "y")),)), ("a", ())),
      (("check", "x", ("in", ((7, 7), (8,)))), ("call", "z")))),
)
EVENT_TEXTS = tuple(
    [(f"put -:0 {text}", ("put", (None, (0,)), step)) for text, step in STEP_TEXTS]
    + [(f"turn a:1.0.2 {text}", ("turn", ("a", (1, 0, 2)), step)) for text, step in STEP_TEXTS]
    + [(f"{word} {text}", (word, key)) for text, key in KEY_TEXTS for word in ("take", "behind")]
    + [(f"drop {text}", ("drop", (key,))) for text, key in KEY_TEXTS]
    + [(f"come {text} -:3", ("come", key, (None, (3,)))) for text, key in KEY_TEXTS]
    + [(f"come -:3 {text}", ("come", (None, (3,)), key)) for text, key in KEY_TEXTS]
    + [(f"call main 1 {text}", ("call", "main", (step,))) for text, step in STEP_TEXTS]
) + (
    ("lean", ("lean",)), ("front", ("front",)), ("call a 0", ("call", "a", ())),
    ("drop -:0 -:0", ("drop", ((None, (0,)), (None, (0,))))),
    ("drop " + " ".join([text for text, _ in KEY_TEXTS]), ("drop", tuple([key for _, key in KEY_TEXTS]))),
    ("call put 2 say 1 call drop", ("call", "put", (SAYS, ("call", "drop")))),
    ("call a " + " ".join([str(len(STEP_TEXTS))] + [text for text, _ in STEP_TEXTS]),
     ("call", "a", tuple([step for _, step in STEP_TEXTS]))),
)
