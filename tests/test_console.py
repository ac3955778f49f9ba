"""Promise [18]: the console, each command, its answer, its errors, and what is no command."""

import re
import unittest
from random import Random

from lastcopied.alike import alike
from lastcopied.console import Console
from lastcopied.errors import (
    CopyError, InvalidCommand, InvalidNumber, InvalidText, NothingToUndo, Unheard,
)
from lastcopied.hearings import Hearing
from lastcopied.patterns import patterns, totals
from lastcopied.texts import read_row
from tests.wrong_values import NEVER, OBJECTS, check_errors

# Its patterns are (0, 2) and (1,).
ROW = ("new", (3, 2, 3))
# Its patterns are (0, 0, 3), (0, 1, 2) and (0, 2, 1).
THREE = ("old", (2, 3, 2, 3, 2))
LONE = ("undo", "heard", "next", "sure", "left")


class Raises(unittest.TestCase):

    def raises(self, wanted, call, *arguments):
        """The call raises exactly this error, which is returned."""
        with self.assertRaises(CopyError, msg=arguments) as caught:
            call(*arguments)
        self.assertIs(type(caught.exception), wanted, arguments)
        return caught.exception

    def says(self, console, *pairs):
        """The console answers each command so, one behind another."""
        for command, answer in pairs:
            self.assertEqual(console.execute(command), answer, command)


class TheConstructor(Raises):

    def test_errors_and_names(self):
        check_errors(self, Console, {"row": ROW})
        self.assertEqual(Console(row=ROW).execute(command="heard"), "-")

    def test_two_consoles_are_independent(self):
        one, other = Console(ROW), Console(ROW)
        one.execute("hear 2")
        self.says(other, ("heard", "-"), ("left", "0 2; 1"))


class TheCommands(Raises):

    def test_hear_and_undo(self):
        console = Console(THREE)
        self.says(console, ("hear 2", "2"), ("hear 1", "1"), ("hear 0", "1"), ("heard", "2 1 0"),
                  ("undo", "0"), ("undo", "1"), ("heard", "2"), ("undo", "2"), ("heard", "-"))
        self.raises(NothingToUndo, console.execute, "undo")
        self.raises(Unheard, console.execute, "hear 4")
        self.raises(Unheard, console.execute, "hear 999999999")
        self.says(console, ("heard", "-"), ("hear 0", "3"))

    def test_heard_and_next(self):
        console = Console(THREE)
        self.says(console, ("heard", "-"), ("next", "0 1 2 3"), ("hear 0", "3"), ("heard", "0"),
                  ("next", "0 1 2 3"), ("hear 0", "1"), ("heard", "0 0"), ("next", "3"))

    def test_sure(self):
        console = Console(ROW)
        self.says(console, ("sure", "| 0 1 2"), ("hear 0", "1"), ("sure", "2 0 *"),
                  ("hear 2", "1"), ("sure", "0 2 *"), ("undo", "2"), ("undo", "0"),
                  ("hear 1", "1"), ("sure", "1 *"))
        self.says(Console(("new", (2, 3))), ("sure", "| 1 2"), ("hear 2", "1"), ("sure", "1 2 *"))
        self.says(Console(("new", (1, 60))), ("sure", "60 *"))
        # This row has one pattern, but where in it the steps are is in doubt at first.
        console = Console(("new", (5, 3)))
        self.says(console, ("left", "0 1 0 1 1"), ("sure", "| 0 1"), ("hear 0", "1"),
                  ("sure", "1 | 0 1"), ("hear 1", "1"), ("hear 1", "1"), ("sure", "0 1 0 1 1 *"))

    def test_left(self):
        console = Console(THREE)
        self.says(console, ("left", "0 0 3; 0 1 2; 0 2 1"), ("hear 1", "2"),
                  ("left", "0 1 2; 0 2 1"), ("hear 2", "1"), ("left", "0 1 2"))
        self.says(Console(("old", (1, 60))), ("left", "60"))

    def test_total(self):
        console = Console(ROW)
        self.says(console, ("total 0", "0"), ("total 1", "0 1 2"), ("total 2", "2"),
                  ("total 3", "2 3 4"), ("total 2000", "2000"), ("total 1999", "1998 1999 2000"))
        console.execute("hear 1")
        # What is heard tells nothing about them.
        self.says(console, ("total 1", "0 1 2"))
        for number in ("2001", "999999999", "10000"):
            self.raises(InvalidNumber, console.execute, f"total {number}")

    def test_alike(self):
        console = Console(("old", (2, 4)))
        self.says(console, ("alike new 1 2", "yes"), ("alike old 2 4", "yes"),
                  ("alike new 1 3", "no"), ("alike old 1 1 2", "yes"), ("alike new 1 2 3", "no"))
        for text, place in (("", 0), (" ", 0), (" new 1 2", 0), ("new", 1), ("new 1", 2),
                            ("new 1 2 ", 3), ("new  1 2", 1), ("new 61 2", 1), ("new 1 2\n", 2),
                            ("new 1 2 3 4 5 6", 6), ("undo", 0), ("try 1 undo", 0), ("\n", 0)):
            error = self.raises(InvalidText, console.execute, f"alike {text}")
            self.assertEqual(error.place, place, text)


class Trying(Raises):

    def test_what_the_command_returns(self):
        console = Console(THREE)
        self.says(
            console, ("try 0 next", "0 1 2 3"), ("try 2 left", "0 1 2; 0 2 1"), ("try 2 hear 1", "1"),
            ("try 2 heard", "2"), ("try 2 undo", "2"), ("try 1 sure", "| 0 2"),
            ("try 3 sure", "0 0 3 *"), ("try 1 total 1", "0 1 2 3"),
            ("try 0 alike new 2 3 2 3 2", "yes"), ("try 0 alike new 1 1", "no"), ("heard", "-"),
        )
        console.execute("hear 2")
        self.says(console, ("try 1 heard", "2 1"), ("try 1 hear 0", "1"), ("try 1 left", "0 2 1"),
                  ("try 0 undo", "0"), ("heard", "2"), ("undo", "2"))

    def test_without_a_step(self):
        console = Console(THREE)
        self.says(console, ("try - hear 2", "2"), ("try - heard", "-"), ("try - left", "0 0 3; 0 1 2; 0 2 1"),
                  ("hear 0", "3"), ("try - heard", "0"), ("try - hear 3", "1"), ("heard", "0"))
        self.raises(NothingToUndo, console.execute, "try - undo")
        self.says(console, ("heard", "0"), ("undo", "0"))

    def test_try_within_try(self):
        console = Console(THREE)
        self.says(console, ("try 2 try 1 heard", "2 1"), ("try 2 try 1 undo", "1"),
                  ("try 2 try - heard", "2"), ("try - try 3 heard", "3"),
                  ("try 0 try 0 try 3 next", "0"), ("heard", "-"))
        self.raises(NothingToUndo, console.execute, "try 2 try - undo")
        self.raises(NothingToUndo, console.execute, "try - try - undo")
        self.says(console, ("heard", "-"), ("left", "0 0 3; 0 1 2; 0 2 1"))

    def test_up_to_eight_times(self):
        console = Console(ROW)
        self.says(console, ("try 0 try 2 " * 4 + "heard", "0 2 0 2 0 2 0 2"),
                  ("try - " * 8 + "next", "0 1 2"), ("try - " * 7 + "try 1 undo", "1"))
        for command in ("try - " * 9 + "heard", "try 0 try 2 " * 4 + "try 0 heard",
                        "try - " * 9 + "alike new 2 3", "try - " * 100 + "undo"):
            self.raises(InvalidCommand, console.execute, command)
        # Those in a TEXT do not count.
        for many in (0, 8):
            command = "try - " * many + "alike " + "try - " * 9 + "heard"
            self.assertEqual(self.raises(InvalidText, console.execute, command).place, 0)
        self.says(console, ("heard", "-"))

    def test_the_step_comes_first(self):
        console = Console(ROW)
        for command in ("try 9 undo", "try 9 total 9999", "try 9 alike x", "try 9 hear 9",
                        "try 9 try - undo", "try 0 try 1 total 9999", "try 2 try 0 try 0 alike "):
            self.raises(Unheard, console.execute, command)
        for wanted, command in (
            (NothingToUndo, "try 0 try - undo"), (InvalidNumber, "try 0 total 2001"),
            (InvalidText, "try 0 alike x"), (Unheard, "try 0 hear 0"), (InvalidText, "try - alike "),
        ):
            self.raises(wanted, console.execute, command)
        self.says(console, ("heard", "-"))

    def test_all_is_looked_at_before_anything_is_done(self):
        console = Console(ROW)
        for command in ("try 9 x", "try 9 undo 1", "try 9 hear -1", "try 9 try x heard", "try 9 total",
                        "try 9 alike", "try 9 try 9 try 9", "try 9 hear 1000000000", "try 9 ",
                        "try 9", "try 9 try", "try - try", "try 9 sure "):
            self.raises(InvalidCommand, console.execute, command)
        self.says(console, ("heard", "-"))


class NoCommands(Raises):

    def test_other_strings(self):
        console = Console(ROW)
        console.execute("hear 2")
        for command in (
            "", " ", "\n", "-", "0", "x", "Undo", "HEARD", "undo ", " undo", "undo\n", "\nundo",
            "undo 1", "undo undo", "heard 1", "heard -", "next ", "next 0", "sure *", "left 0 2",
            "lefts", "unheard", "following", "hear", "hear ", "hear  1", "hear 1 ", "hear 1 2",
            "hear -", "hear -1", "hear -0", "hear +1", "hear 01", "hear 00", "hear x", "hear 1.0",
            "hear 1/2", "hear 1000000000", "hear 0000000001", "hear 1\n", "hear\n1", "hear 1_0",
            "hear\t1", "hear1", "total", "total ", "total  1", "total 1 ", "total -1", "total -0",
            "total -", "total 02", "total x", "total 1 2", "total 1000000000", "total 1\n",
            "alike", "alike\n", "alikenew 2 3", "Alike new 2 3", "like new 2 3", "new 2 3",
            "alike\tnew 2 3", " alike new 2 3", "try", "try ", "try  ", "try 1", "try 1 ", "try -",
            "try - ", "try undo", "try  undo", "try - - undo", "try 1 2 undo", "try 1  undo",
            "try -1 undo", "try -0 undo", "try 01 undo", "try x undo", "try try undo", "try +1 undo",
            "try 1000000000 undo", "try - Undo", "try -  undo", "try - undo ", "try\n1 undo",
            "try 0\nundo", "try 1 try", "try 1 try ", "try 1 try 1", "try 1 try 1 ", "try 0, undo",
            "tries 1 undo", "undo try - undo", "hear 1; undo", "hear 0 hear 2", "most", "calls", "row",
        ):
            self.raises(InvalidCommand, console.execute, command)
        self.says(console, ("heard", "2"))

    def test_values_that_are_no_strings(self):
        console = Console(ROW)
        for value in NEVER + OBJECTS + [True, 0, ["undo"], ("undo",), [], 10 ** 31 - 1]:
            self.raises(InvalidCommand, console.execute, value)
        self.raises(InvalidCommand, lambda: console.execute(command=None))
        self.says(console, ("heard", "-"))


def told_steps(steps):
    """Steps with single spaces between, - for none."""
    return " ".join(map(str, steps)) or "-"


def plain_answer(hearing, command):
    """What a command does to a hearing, made anew."""
    tried = re.fullmatch("try ([0-9]+|-) ((.|\n)*)", command)
    if tried:
        with hearing.trying():
            if tried[1] != "-":
                hearing.hear(int(tried[1]))
            return plain_answer(hearing, tried[2])
    word, _, told = command.partition(" ")
    return {
        "hear": lambda: str(hearing.hear(int(told))),
        "undo": lambda: str(hearing.undo()),
        "heard": lambda: told_steps(hearing.heard),
        "next": lambda: told_steps(hearing.following),
        "sure": lambda: plain_sure(*hearing.sure()),
        "left": lambda: "; ".join(map(told_steps, hearing.left)),
        "total": lambda: told_steps(totals(hearing.row, int(told))),
        "alike": lambda: "yes" if alike(hearing.row, read_row(told)) else "no",
    }[word]()


def plain_sure(steps, rest):
    """The sure steps and what stands behind them."""
    return re.sub("^- ", "", f"{told_steps(steps)} | {told_steps(rest)}" if rest else f"{told_steps(steps)} *")


def given(call, *arguments):
    """What a call returns, or the class of the error that it raises."""
    try:
        return call(*arguments)
    except CopyError as error:
        return type(error)


class AgainstAHearing(unittest.TestCase):

    def test_many_commands_one_behind_another(self):
        for seed in range(40):
            random = Random(seed)
            row = random.choice((ROW, THREE, ("new", (5, 3)), ("old", (4, 3, 2, 4))))
            console, hearing = Console(row), Hearing(row)
            for _ in range(60):
                command = some_command(random, hearing)
                self.assertEqual(given(console.execute, command), given(plain_answer, hearing, command),
                                 (row, command))
                self.assertEqual(console.execute("heard"), told_steps(hearing.heard))
            self.assertTrue(set(hearing.left) <= set(patterns(row)))


def some_command(random, hearing):
    """A command that often fits what is heard."""
    step = random.choice(hearing.following + [0, 1, 2])
    command = random.choice([
        f"hear {step}", f"hear {step}", f"total {random.randrange(2100)}", *LONE,
        "alike new 3 2 3", "alike old 2 3 2", "alike old 2 3 2 3 2", "alike new 2", "alike ",
    ])
    for _ in range(random.choice((0, 0, 0, 1, 2, 8))):
        command = f"try {random.choice([step, '-', 0, 1])} {command}"
    return command
