"""Lag sets: sets of integers from 0 on that come again."""

from owntimes.errors import InvalidNumber, InvalidNumbers, InvalidPeriod, InvalidText, NotLags, TooMany
from owntimes.limits import MOST_LAGS
from owntimes.repeats import flag_at, least_row, meet, meeting_row, opposite_row, parts_of, row_of, shifted_row
from owntimes.sums import sum_row
from owntimes.values import is_between, is_integer

_MOST_MEMBER = 1000
_MOST_PERIOD = 60
_MOST_READ = 1000
_MOST_SHIFT = 1000
_MOST_UPTO = 5000
_MOST_DIGITS = 4
_EMPTY = "none"


class Lags:
    """The integers in single, and t, t + period, t + 2 * period and so on for each t in again."""

    def __init__(self, single=(), again=(), period=1):
        _check_numbers(single)
        _check_numbers(again)
        if not is_between(period, 1, _MOST_PERIOD):
            raise InvalidPeriod(period)
        self._row = least_row(row_of(single, again, period))

    @classmethod
    def read(cls, text):
        """The lag set with this text."""
        parts = _parts_in(text)
        if parts is None:
            raise InvalidText(text)
        single, again, period = parts
        found = lags_of(row_of(single, again, period))
        # A text in another order or with another period than the least is told by its own writing.
        if found.start + found.period > _MOST_READ or str(found) != text:
            raise InvalidText(text)
        return found

    @property
    def start(self):
        """The least number from which on the set comes again by its period."""
        return self._row[1]

    @property
    def period(self):
        """The least period."""
        return len(self._row[0]) - self._row[1]

    @property
    def members(self):
        """The ascending tuple of the members below start + period."""
        single, again, _ = parts_of(self._row)
        return single + again

    @property
    def first(self):
        """The least member, None if there is none."""
        members = self.members
        return members[0] if members else None

    @property
    def endless(self):
        """Whether there are infinitely many members."""
        return any(self._row[0][self.start:])

    def within(self, other):
        """Whether all members are members of the other one."""
        _check_lags(other)
        return not meet(self._row, opposite_row(other._row))

    def shifted(self, by):
        """The lag set of all d + by, for members d, that are not below 0."""
        if not is_between(by, -_MOST_SHIFT, _MOST_SHIFT):
            raise InvalidNumber(by)
        return _limited(shifted_row(self._row, by))

    def upto(self, limit):
        """The ascending tuple of the members that are at most this integer."""
        if not is_between(limit, 0, _MOST_UPTO):
            raise InvalidNumber(limit)
        return tuple([number for number in range(limit + 1) if flag_at(self._row, number)])

    def __or__(self, other):
        _check_lags(other)
        row = meeting_row(opposite_row(self._row), opposite_row(other._row), MOST_LAGS)
        return _limited(None if row is None else opposite_row(row))

    def __and__(self, other):
        _check_lags(other)
        return _limited(meeting_row(self._row, other._row, MOST_LAGS))

    def __sub__(self, other):
        _check_lags(other)
        return _limited(meeting_row(self._row, opposite_row(other._row), MOST_LAGS))

    def __add__(self, other):
        _check_lags(other)
        return _limited(sum_row(self._row, other._row, MOST_LAGS))

    def __contains__(self, x):
        return is_integer(x) and x >= 0 and flag_at(self._row, x)

    def __eq__(self, other):
        return isinstance(other, Lags) and self._row == other._row

    def __bool__(self):
        return True in self._row[0]

    def __str__(self):
        return " ".join(_words(self))

    def __repr__(self):
        return f"Lags('{str(self)}')"


def lags_of(row):
    """The lag set of the members of a row, whatever its start and period are."""
    made = Lags()
    made._row = least_row(row)
    return made


def _limited(row):
    """The lag set of a row, or of None in the place of one that is too long to be written down."""
    if row is None:
        raise TooMany(MOST_LAGS)
    made = lags_of(row)
    if made.start + made.period > MOST_LAGS:
        raise TooMany(MOST_LAGS)
    return made


def _check_numbers(values):
    """Raise InvalidNumbers if the values are no tuple of integers within the bounds."""
    if not isinstance(values, tuple):
        raise InvalidNumbers(None)
    for at, value in enumerate(values):
        if not is_between(value, 0, _MOST_MEMBER):
            raise InvalidNumbers(at)


def _check_lags(value):
    """Raise NotLags if the value is no lag set."""
    if not isinstance(value, Lags):
        raise NotLags(value)


def _words(lags):
    """The words of the text of a lag set."""
    single, again, period = parts_of(lags._row)
    if not single and not again:
        return [_EMPTY]
    return [str(number) for number in single] + [f"{number}+{period}" for number in again]


def _parts_in(text):
    """The integers alone, those with a period and the period that a text tells; None if it tells none."""
    if not isinstance(text, str):
        return None
    if text == _EMPTY:
        return (), (), 1
    single, again, period = [], [], 1
    for word in text.split(" "):
        number, plus, step = word.partition("+")
        if not _is_number(number) or (plus and not _is_number(step)):
            return None
        if plus:
            again.append(int(number))
            period = int(step)
        else:
            single.append(int(number))
    if period == 0:
        return None
    return single, again, period


def _is_number(word):
    """Whether the word is of digits alone and its number is not above those in any text that is read."""
    # The number of digits is asked before the number, which could be of any size.
    return word.isascii() and word.isdigit() and len(word) <= _MOST_DIGITS and int(word) <= _MOST_READ
