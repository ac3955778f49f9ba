"""A console: a hearing of a row that is led by commands."""

from lastcopied.alike import alike
from lastcopied.errors import InvalidCommand
from lastcopied.hearings import Hearing
from lastcopied.patterns import totals
from lastcopied.texts import count_of, read_row, write_steps

LONE_WORDS = ("undo", "heard", "next", "sure", "left")
TRY = "try "
MOST_TRIES = 8
NO_STEP = "-"


class Console:
    """A hearing of a row that is led by commands."""

    def __init__(self, row):
        self._hearing = Hearing(row)

    def execute(self, command):
        """What the command returns, a string."""
        tries, behind = _parted(command)
        return self._tried(tries, behind)

    def _tried(self, tries, command):
        """What the command returns behind the words of the tries, each one in a block of its own."""
        if not tries:
            return self._done(command)
        with self._hearing.trying() as hearing:
            if tries[0] != NO_STEP:
                hearing.hear(int(tries[0]))
            return self._tried(tries[1:], command)

    def _done(self, command):
        """What a command without a try ahead returns."""
        hearing = self._hearing
        word, _, told = command.partition(" ")
        if word == "hear":
            return str(hearing.hear(int(told)))
        if word == "undo":
            return str(hearing.undo())
        if word == "heard":
            return _listed(hearing.heard)
        if word == "next":
            return _listed(hearing.following)
        if word == "sure":
            return _sure_text(hearing.sure())
        if word == "left":
            return "; ".join([write_steps(list(pattern)) for pattern in hearing.left])
        if word == "total":
            return write_steps(totals(hearing.row, int(told)))
        return "yes" if alike(hearing.row, read_row(told)) else "no"


def _parted(command):
    """The words behind each try ahead, and the command behind them; InvalidCommand if it is none."""
    if not isinstance(command, str):
        raise InvalidCommand("a command is a string")
    tries = []
    behind = command
    while behind.startswith(TRY):
        word, _, behind = behind[len(TRY):].partition(" ")
        tries.append(word)
    if len(tries) > MOST_TRIES:
        raise InvalidCommand("a command has at most 8 words try ahead")
    if not all([word == NO_STEP or count_of(word) is not None for word in tries]):
        raise InvalidCommand("what is tried is a step or -")
    if not _is_lone(behind):
        raise InvalidCommand("there is no such command")
    return tries, behind


def _is_lone(command):
    """Whether a string is a command without a try ahead; its TEXT is not looked at."""
    if command in LONE_WORDS:
        return True
    word, space, told = command.partition(" ")
    if word in ("hear", "total"):
        return count_of(told) is not None
    return word == "alike" and space == " "


def _listed(steps):
    """The steps with single spaces between, - for none."""
    return write_steps(steps) if steps else "-"


def _sure_text(sure):
    """The sure steps, and behind them * if they are repeated for ever, otherwise | and the rest."""
    steps, rest = sure
    behind = ["|"] + [str(step) for step in rest] if rest else ["*"]
    return " ".join([str(step) for step in steps] + behind)
