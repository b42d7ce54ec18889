"""Programs, and values that are not programs, for several test files."""

from tests.checks import Odd

FAR = 10 ** 30
REVERSE = ("reverse",)


def repeat(times, *commands):
    return ("repeat", times, commands)


def nest(programs, *commands):
    """A program with so many programs nested, itself included; the commands stand in the innermost one."""
    for _ in range(programs - 1):
        commands = (repeat(2, *commands),)
    return commands


PROGRAMS = (
    (),
    (("up", 0),),
    (("up", 3),),
    (("down", 0),),
    (("down", 3),),
    (REVERSE,),
    (("restore",),),
    (("first", 2),),
    (("first", 29),),
    (("last", 2),),
    (("last", 29),),
    (repeat(1),),
    (repeat(FAR),),
    (repeat(1, ("up", 0)),),
    (repeat(FAR, ("last", 29), ("restore",)),),
    (("up", 0), ("first", 3), ("up", 1)),
    (("up", 0), ("up", 0), REVERSE, REVERSE, ("last", 5), ("first", 9)),
    (repeat(3, repeat(2), ("down", 1)), ("up", 2), repeat(4, REVERSE)),
    nest(4),
    nest(4, ("down", 3), ("first", 2)),
    nest(4, ("up", 0)) + nest(4, REVERSE) + nest(3),
    (REVERSE,) * 400,
    (repeat(FAR),) * 400,
    (repeat(2, *(REVERSE,) * 399),),
    (repeat(2, *(REVERSE,) * 198), ("up", 0), repeat(3, *(("last", 2),) * 199)),
    nest(4, *(REVERSE,) * 397),
)

# Values that are not commands, also where they stand in a repeat.
WRONG_COMMANDS = (
    None, True, False, 0, 1, "", "up", "reverse", "up:0", b"up", [], ["reverse"], ["up", 0], {}, {"up": 0}, {"reverse"},
    (), ((),), (None,), (0,), (1, "up"), (0, "up"), ("place", "up"), (["up"], 0), ((["up"], 0),), (("up", 0),),
    (("reverse",),), (("up",), 0), ([], []), (b"up", 0), (b"reverse",), ([0, 1], 0), ({}, 0), (Odd(),), (Odd(), 0), Odd(),
    ("",), ("", 0), ("sort", 1), ("Up", 0), ("UP", 0), ("up ", 0), (" up", 0), ("upp", 0), ("u", 0), ("cut", 3),
    ("turn",), ("Reverse",), ("reverse ",), ("re",), ("pair", 0), ("First", 3), ("firs", 3), ("Repeat", 2, ()),
    ("up",), ("down",), ("up", 0, 0), ("down", 0, 1), ("up", 0, ()), ("up", ()), ("up", (0,)), ("down", [0]),
    ("up", -1), ("up", 4), ("down", -1), ("down", 4), ("up", 5), ("down", 10 ** 39), ("up", -(10 ** 39)),
    ("up", True), ("up", False), ("down", True), ("down", False), ("up", None), ("up", "0"), ("up", "place"),
    ("up", b"0"), ("down", Odd()), ("up", "down"), ("up", "up", 0),
    ("reverse", 0), ("restore", 0), ("reverse", None), ("restore", ()), ("reverse", "reverse"), ("reverse", 2, ()),
    ("first",), ("last",), ("first", 3, 3), ("last", 3, ()), ("first", 1), ("first", 30), ("last", 1), ("last", 30),
    ("first", 0), ("last", -2), ("first", 10 ** 39), ("first", True), ("last", False), ("first", None), ("last", "3"),
    ("first", (3,)), ("last", [3]), ("first", Odd()),
    ("repeat",), ("repeat", 2), ("repeat", ()), ("repeat", 2, (), ()), ("repeat", (), 2), ("repeat", 2, (), None),
    ("repeat", 0, ()), ("repeat", -1, ()), ("repeat", 10 ** 30 + 1, ()), ("repeat", 10 ** 39, ()), ("repeat", True, ()),
    ("repeat", False, ()), ("repeat", None, ()), ("repeat", "2", ()), ("repeat", (2,), ()), ("repeat", Odd(), ()),
    ("repeat", 0, (REVERSE,)), ("repeat", FAR + 1, (REVERSE,)), ("repeat", True, (REVERSE,)),
    ("repeat", 2, []), ("repeat", 2, [REVERSE]), ("repeat", 2, None), ("repeat", 2, ""), ("repeat", 2, "reverse"),
    ("repeat", 2, 0), ("repeat", 2, True), ("repeat", 2, {}), ("repeat", 2, Odd()), ("repeat", 2, REVERSE),
    ("repeat", 2, ("up", 0)), ("repeat", 2, ((),)), ("repeat", 2, (REVERSE, None)), ("repeat", 2, (["up", 0],)),
)

# Values that are not programs, each with the index of the error.
WRONG_PROGRAMS = (
    (None, None),
    (True, None),
    (False, None),
    (0, None),
    (10 ** 39, None),
    ("", None),
    ("up:0", None),
    (b"", None),
    ([], None),
    ([("up", 0)], None),
    ([("up", 9)], None),
    ({}, None),
    ({REVERSE: 1}, None),
    (Odd(), None),
    (range(0), None),
    (REVERSE, 0),
    (("up", 0), 0),
    (("repeat", 2, ()), 0),
    ((("up", 0), ("up", 7)), 1),
    ((("up", 0), ("sort", 1)), 1),
    ((("up", 0), ("first", 1), ("first", 30)), 1),
    ((REVERSE, ["reverse"], REVERSE), 1),
    ((REVERSE, REVERSE, ("up", True)), 2),
    ((REVERSE, repeat(2, REVERSE), repeat(2, REVERSE, ("up", 4))), 2),
    ((REVERSE, repeat(2, ("up", 1), repeat(3, ("down", 2), ("last", 30)))), 1),
    ((REVERSE, repeat(2, ("up", 1), repeat(3, ("down", 2), ("up", False))), ("up", 9)), 1),
    ((repeat(2, repeat(2, repeat(2, ("first", 2), ("first", 1)))),), 0),
    (nest(5), 0),
    (nest(5, REVERSE), 0),
    (nest(6), 0),
    ((REVERSE,) + nest(4) + nest(5) + nest(4), 2),
    ((REVERSE, repeat(2, REVERSE, nest(4)[0], REVERSE)), 1),
    ((REVERSE,) * 401, 400),
    ((REVERSE,) * 450, 400),
    ((REVERSE,) * 400 + (None,), 400),
    ((REVERSE,) * 399 + (None, REVERSE, REVERSE), 399),
    ((repeat(1),) * 401, 400),
    ((REVERSE,) * 400 + (repeat(1),), 400),
    ((REVERSE,) * 399 + (repeat(1, REVERSE),), 399),
    ((REVERSE,) * 399 + (repeat(1, repeat(1)),), 399),
    ((REVERSE,) * 398 + (repeat(1, repeat(1, REVERSE)), REVERSE), 398),
    ((REVERSE,) * 397 + (repeat(1, repeat(1, REVERSE)), REVERSE), 398),
    ((repeat(1, *(REVERSE,) * 399), REVERSE), 1),
    ((repeat(1, *(REVERSE,) * 400), REVERSE), 0),
    ((repeat(1, *(REVERSE,) * 199), repeat(1, *(REVERSE,) * 200), REVERSE), 1),
    ((repeat(1, *(REVERSE,) * 199), repeat(1, *(REVERSE,) * 199), repeat(1)), 2),
    (nest(4, *(REVERSE,) * 398), 0),
    ((("up", 3),) + nest(4, *(REVERSE,) * 397), 1),
)
