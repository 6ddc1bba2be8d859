"""The table of a line, which is the same for two lines exactly if they are."""

from owntimes.lagsets import lags_of
from owntimes.lines import check_line
from owntimes.nets import net_of
from owntimes.repeats import flag_at, least_of, with_zero
from owntimes.stuck import check_free


def table(line):
    """The table of the line: the tuple (outlets, orders, pairs)."""
    check_line(line)
    check_free(line)
    outlets, orders = net_of(line)
    names = [name for name in line.timed if least_of(outlets[name]) is not None]
    later = [(one, other, with_zero(orders[one, other], False)) for one in names for other in names]
    # Which of two works of one number comes first makes no difference to when anything ends.
    pairs = [
        (one, other) for one in names for other in names
        if one < other and (flag_at(orders[one, other], 0) or flag_at(orders[other, one], 0))
    ]
    return (
        tuple([(name, lags_of(outlets[name])) for name in names]),
        tuple([(one, other, lags_of(row)) for one, other, row in later if least_of(row) is not None]),
        tuple(pairs),
    )
