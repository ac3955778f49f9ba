"""Texts of rows, steps and phases, words with single spaces between, written and read."""

from lastcopied.errors import InvalidText
from lastcopied.heard import check_stretch
from lastcopied.rows import FEWEST_COPIERS, MOST_COPIERS, check_phases, check_row, is_period
from lastcopied.values import is_fraction

MOST_DIGITS = 9


def write_row(row):
    """The text of a row: its tie and its periods."""
    check_row(row)
    tie, periods = row
    return " ".join([tie] + [str(period) for period in periods])


def read_row(text):
    """The row of a text."""
    words = _words(text)
    if words[0] not in ("new", "old"):
        raise InvalidText(0)
    periods = _all_told([_period_of(word) for word in words[1:MOST_COPIERS + 1]], 1)
    if len(words) > MOST_COPIERS + 1:
        raise InvalidText(MOST_COPIERS + 1)
    if len(periods) < FEWEST_COPIERS:
        raise InvalidText(len(words))
    return words[0], tuple(periods)


def write_steps(stretch):
    """The text of a list of steps, the empty string for none."""
    check_stretch(stretch)
    return " ".join([str(step) for step in stretch])


def read_steps(text):
    """The list of steps of a text."""
    words = _words(text)
    if words == [""]:
        return []
    return _all_told([count_of(word) for word in words], 0)


def write_phases(row, phases):
    """The text of phases of a row."""
    check_phases(row, phases)
    return " ".join([_phase_word(phase) for phase in phases])


def read_phases(row, text):
    """The phases of a row that a text tells."""
    check_row(row)
    many = len(row[1])
    words = _words(text)
    phases = _all_told([_phase_of(word) for word in words[:many]], 0)
    # Words are missing, or the first one too many stands behind the last phase.
    if len(words) != many:
        raise InvalidText(min(len(words), many))
    return phases


def _words(text):
    """The words of a text, at least one, which may be empty."""
    if not isinstance(text, str):
        raise InvalidText(0)
    return text.split(" ")


def _all_told(values, first):
    """The values of the words from the first one on; a word that tells none has None."""
    if None in values:
        raise InvalidText(first + values.index(None))
    return values


def count_of(word):
    """The integer from 0 on that a word tells, None if it tells none."""
    if not word.isascii() or not word.isdigit() or len(word) > MOST_DIGITS:
        return None
    if word[0] == "0" and word != "0":
        return None
    return int(word)


def _integer_of(word):
    """The integer that a word tells, None if it tells none."""
    if not word.startswith("-"):
        return count_of(word)
    below = count_of(word[1:])
    # Neither what is no integer nor 0 has a sign ahead.
    return -below if below else None


def _period_of(word):
    """The period that a word tells, None if it tells none."""
    period = count_of(word)
    return period if is_period(period) else None


def _phase_of(word):
    """The fraction that a word tells, None if it tells none."""
    above, slash, below = word.partition("/")
    if not slash:
        top = _integer_of(word)
        return None if top is None else (top, 1)
    phase = _integer_of(above), count_of(below)
    return phase if is_fraction(phase) and phase[1] > 1 else None


def _phase_word(phase):
    """The word that tells a fraction."""
    top, bottom = phase
    return str(top) if bottom == 1 else f"{top}/{bottom}"
