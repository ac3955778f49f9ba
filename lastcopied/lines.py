"""Rows as objects that are put together, changed, compared and walked along."""

from lastcopied.alike import alike, least_rows, left_out, with_middles, within
from lastcopied.errors import InvalidIndex, InvalidLine, OtherEnds
from lastcopied.patterns import loses, patterns
from lastcopied.rows import check_period, check_row, number_at, told_steps
from lastcopied.texts import read_row
from lastcopied.values import is_integer, is_within


class Line:
    """A row as an object; its row is replaced as a whole, so that lines made of it before stay."""

    def __init__(self, tie, *periods):
        row = tie, periods
        check_row(row)
        self._row = row

    @property
    def row(self):
        """The row, the tuple of the tie and the periods."""
        return self._row

    @property
    def tie(self):
        """The tie, "new" or "old"."""
        return self._row[0]

    @property
    def periods(self):
        """The tuple of the periods."""
        return self._row[1]

    def __len__(self):
        return len(self._row[1])

    def __getitem__(self, at):
        _check_index(self._row, at)
        return self._row[1][at]

    def __setitem__(self, at, worth):
        _check_index(self._row, at)
        check_period(worth)
        tie, periods = self._row
        self._row = tie, periods[:at] + (worth,) + periods[at + 1:]

    def __iter__(self):
        raise TypeError("a line is not iterated over")

    def __contains__(self, x):
        return is_integer(x) and x in self._row[1]

    def __call__(self, phases, time):
        return number_at(self._row, phases, time)

    def __add__(self, other):
        return _line_of(_with_behind(self._row, other))

    def __radd__(self, other):
        return _line_of(_with_source(other, self._row))

    def __iadd__(self, other):
        self._row = _with_behind(self._row, other)
        return self

    def __invert__(self):
        tie, periods = self._row
        return _line_of((tie, periods[::-1]))

    def __eq__(self, other):
        return isinstance(other, Line) and alike(self._row, other._row)

    def __ne__(self, other):
        return not self == other

    def __le__(self, other):
        _check_line(other)
        return within(self._row, other._row)

    def __lt__(self, other):
        return self <= other and self != other

    def __bool__(self):
        return not loses(self._row)

    def patterns(self):
        """The ascending list of all patterns that the row has."""
        return patterns(self._row)

    def without(self, index):
        """The line without the middle copier with this index."""
        return _line_of(left_out(self._row, index))

    def least_lines(self):
        """The lines with the same patterns and no needless middle copier."""
        return [_line_of(with_middles(self._row, chosen)) for chosen in least_rows(self._row)]

    def walk(self, phases):
        """Iterates over the steps from step 0 on, as many as there are until they surely repeat."""
        for step in told_steps(self._row, phases):
            yield step

    @classmethod
    def read(cls, text):
        """The line of the text of a row."""
        tie, periods = read_row(text)
        return cls(tie, *periods)


def _line_of(row):
    """The line with this row."""
    tie, periods = row
    return Line(tie, *periods)


def _check_line(value):
    """Raises InvalidLine unless any value is a line."""
    if not isinstance(value, Line):
        raise InvalidLine("this operand has to be a line")


def _check_index(row, index):
    """Raises InvalidIndex unless the row has a copier with this index."""
    if not is_within(index, 0, len(row[1]) - 1):
        raise InvalidIndex("an index of a copier is from 0 on and less than the number of copiers")


def _row_of(tie, periods):
    """The row of these periods; InvalidRow if there are too many of them."""
    row = tie, periods
    check_row(row)
    return row


def _check_added(period):
    """Raises InvalidLine unless the period is an integer, then InvalidPeriod unless it is a period."""
    if not is_integer(period):
        raise InvalidLine("an operand of + has to be a line or an integer")
    check_period(period)


def _with_behind(row, other):
    """The row with the copiers of another line behind it, or with an integer as one reader more."""
    tie, periods = row
    if not isinstance(other, Line):
        _check_added(other)
        return _row_of(tie, periods + (other,))
    if tie != other.tie or periods[-1] != other.periods[0]:
        raise OtherEnds("the other line needs the same tie, and this reader's period as its source's")
    return _row_of(tie, periods + other.periods[1:])


def _with_source(period, row):
    """The row with one source more ahead of it."""
    _check_added(period)
    tie, periods = row
    return _row_of(tie, (period,) + periods)
