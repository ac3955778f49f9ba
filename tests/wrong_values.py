"""Values that are wrong for a parameter, and the check that the first wrong one decides the error."""

from itertools import combinations

from lastcopied.console import Console
from lastcopied.errors import (
    CopyError, InvalidIndex, InvalidNumber, InvalidPattern, InvalidPhases,
    InvalidRow, InvalidStep, InvalidStretch, InvalidText, InvalidTime,
)
from lastcopied.hearings import CappedCountingHearing, CappedHearing, CountingHearing, Hearing
from lastcopied.lines import Line

LONG = 10 ** 31 - 1
NESTED = []
for _ in range(39):
    NESTED = [NESTED]

LINE = Line("new", 2, 3)
OBJECTS = [
    LINE, Line("old", 1, 1, 1, 1, 1), Hearing(("new", (2, 3))), CountingHearing(("old", (3, 2, 3))),
    CappedHearing(("new", (1, 1)), 0), CappedCountingHearing(("new", (2, 3)), 300),
    Hearing(("new", (2, 3))).trying(), Console(("new", (2, 3))),
]

# No parameter of the program takes any of these.
NEVER = OBJECTS + [[value] for value in OBJECTS] + [(LINE, LINE), (LINE,)] + [
    None, "", "new", "1", "new 2 3", [], [[]], [None], NESTED, [0] * 20000, (0, 1, 2) * 6000,
    InvalidRow("row"), InvalidText(0), (None, None), ([], []), ((), ()), [("new", (2, 3))],
]
NO_INTEGERS = NEVER + [True, False, (), (1,), (0, 1), [0], (1, 2)]

NO_ROWS = NEVER + [
    True, 0, LONG, (), ("new",), ("new", (2, 3), 4), ["new", (2, 3)], ("new", [2, 3]),
    ("new", 2, 3), ("New", (2, 3)), ("", (2, 3)), ("ne", (2, 3)), (None, (2, 3)), (["new"], (2, 3)),
    (True, (2, 3)), ((2, 3), "new"), ("new", ()), ("new", (2,)), ("old", (1, 2, 3, 4, 5, 6)),
    ("new", (0, 3)), ("new", (2, 0)), ("new", (2, -3)), ("new", (61, 2)), ("old", (2, 61)),
    ("new", (2, LONG)), ("new", (True, 2)), ("new", (2, True)), ("new", ("2", 3)), ("new", (2, None)),
    ("new", (2, (3,))), ("new", (2, [3])), ("new", "23"), ("new", None), (InvalidRow("x"), (2, 3)),
    ("new", (2, InvalidText(3))), ("new", (2,) * 20000), ("new", LINE), (LINE, (2, 3)),
    ("new", (LINE, 3)), ("new", (2, OBJECTS[2])), (OBJECTS[-1], (2, 3)), ("new", [LINE, LINE]),
]

# For a row of two copiers.
NO_PHASES = NEVER + [
    True, 0, (), ((0, 1), (0, 1)), [(0, 1)], [(0, 1)] * 3, [(0, 1)] * 20000, [0, 0], [0, (0, 1)],
    [(0, 1), 0], [[0, 1], (0, 1)], [(0, 1), [0, 1]], [(0, 1), (0, 2)], [(2, 2), (0, 1)],
    [(0, 1), (6, 4)], [(0, 1), (-6, 4)], [(1, 0), (0, 1)], [(0, 0), (0, 1)], [(0, 1), (1, -2)],
    [(0, 1), (0, -1)], [(0, 1), (1,)], [(0, 1), (1, 1, 1)], [(0, 1), ()], [(True, 1), (0, 1)],
    [(0, 1), (0, True)], [(False, 1), (0, 1)], [(0, 1), ("0", 1)], [(0, 1), (0, None)],
    [(0, 1), None], [(0, 1), "0"], [(0, 1), ((0, 1), 1)], [(0, 1), InvalidText(0)],
    [(0, 1), (LONG - 1, 2)], [LINE, (0, 1)], [(0, 1), (LINE, 1)], [(0, 1), (0, OBJECTS[2])],
]

NO_TIMES = NEVER + [
    True, 0, 7, LONG, (), (1,), (1, 1, 1), [0, 1], (0, 2), (2, 2), (6, 4), (-6, 4), (1, 0), (0, 0),
    (1, -2), (0, -1), (True, 1), (0, True), (False, 1), ("0", 1), (0, None), ((0, 1), 1), ([0], 1),
    (LONG, LONG), (0, LONG), (InvalidText(0), 1), [(0, 1)], (LINE, 1), (0, LINE),
]

NO_MANY = NO_INTEGERS + [-1, -LONG, 2001, LONG]

# For a row that has the patterns (0, 2) and (1,) alone.
NO_PATTERNS = NEVER + [
    True, 0, 1, (), (0,), (2,), (2, 0), (1, 1), (0, 2, 0, 2), [0, 2], [1], (True,), (False, 2),
    ("0", 2), (None,), ((1,),), ([1],), (-1, 3), (LONG,), (1, 2), (InvalidText(1),), (1,) * 20000,
    (LINE, 2), (0, OBJECTS[3]),
]

# Two of the values that are wrong elsewhere are stretches, one of them beyond the limit of use.
NO_STRETCHES = [value for value in NEVER if value not in ([], [0] * 20000)] + [
    True, 0, 3, (), (0,), (0, 1), [True], [0, False], [-1], [0, -LONG], [0, 1, -1], ["0"], [0, None],
    [(0,)], [(0, 1)], [[0]], [0, [1]], [InvalidText(0)], ["0", "1"], [0] * 19999 + [-1],
    [0, LINE], [LINE, 0], [1, OBJECTS[-1]],
]

# For a row of three copiers: no index of a middle one.
NO_MIDDLES = NO_INTEGERS + [-1, -2, 0, 2, 3, 4, LONG, -LONG]

NO_STEPS = NO_INTEGERS + [-1, -2, -LONG]
NO_PERIODS = NO_INTEGERS + [-1, 0, 61, LONG, -LONG]
NO_MOSTS = NO_INTEGERS + [-1, 301, LONG, -LONG]

WRONG = {
    "row": (InvalidRow, NO_ROWS),
    "one": (InvalidRow, NO_ROWS),
    "other": (InvalidRow, NO_ROWS),
    "phases": (InvalidPhases, NO_PHASES),
    "time": (InvalidTime, NO_TIMES),
    "first": (InvalidNumber, NO_INTEGERS),
    "many": (InvalidNumber, NO_MANY),
    "pattern": (InvalidPattern, NO_PATTERNS),
    "stretch": (InvalidStretch, NO_STRETCHES),
    "index": (InvalidIndex, NO_MIDDLES),
    "step": (InvalidStep, NO_STEPS),
    "steps": (InvalidStretch, NO_STRETCHES),
    "most": (InvalidNumber, NO_MOSTS),
}


def check_errors(test, call, right):
    """Each wrong argument alone raises its error; beside others that of the first one is raised.

    The parameters of `right`, a dict, stand in the order of the signature.
    """
    for name in right:
        wanted, values = WRONG[name]
        for value in values:
            check_raises(test, wanted, call, {**right, name: value})
    for size in range(2, len(right) + 1):
        for names in combinations(right, size):
            for at in (0, 3, -1):
                wrong = {name: WRONG[name][1][at] for name in names}
                check_raises(test, WRONG[names[0]][0], call, {**right, **wrong})


def check_raises(test, wanted, call, arguments):
    """The call raises exactly this error, by name and by position."""
    with test.assertRaises(CopyError) as caught:
        call(**arguments)
    test.assertIs(type(caught.exception), wanted)
    with test.assertRaises(CopyError) as caught:
        call(*arguments.values())
    test.assertIs(type(caught.exception), wanted)
