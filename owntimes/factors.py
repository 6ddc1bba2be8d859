"""How many times later than another line a line can be, and with which head start it is never later."""

from owntimes.chains import chains_in
from owntimes.checks import check_bound
from owntimes.heads import leads_by, least_lead
from owntimes.lines import check_line
from owntimes.nets import cases_of_one, first_case, net_of
from owntimes.repeats import least_of
from owntimes.stuck import check_free

_MOST_BOUND = 20


def factor(one, other):
    """The least integer by which the other line's end, multiplied, is never exceeded; None if there is none."""
    _check(one, other)
    left, right = _nets(one, other)
    names = _names_reaching(left)
    if not names:
        return 0
    if cases_of_one(left, right) or _endless(left, right, names):
        return None
    chains, most = chains_in(other, left, right, names), 1
    while chains.found(most + 1) is not None:
        most = most + 1
    return most


def beyond(one, other, bound):
    """Any case in which the end of the one line is greater than bound times that of the other one, None if none is."""
    _check(one, other)
    check_bound(bound, _MOST_BOUND)
    left, right = _nets(one, other)
    lost = first_case(cases_of_one(left, right))
    if lost is not None:
        return lost
    chain = _chain_of(other, left, right, bound + 1)
    if chain is None:
        return None
    # What the last one reaches, all that come before it reach, too.
    last, at = chain[-1]
    return last + least_of(left[0][at]), tuple([(name, number) for number, name in sorted(chain)])


def head_start(one, other):
    """The least head start with which the one line is never later than the other one, None if there is none."""
    _check(one, other)
    left, right = _nets(one, other)
    return least_lead(left, right)


def has_head_start(one, other, start):
    """Whether the one line is never later than the other one with this head start."""
    left, right = _nets(one, other)
    return leads_by(left, right, start)


def _check(one, other):
    """Raise NotALine for the first of these that is no line."""
    check_line(one)
    check_line(other)


def _nets(one, other):
    """The nets of both lines; Stuck for the first that has none."""
    check_free(one)
    check_free(other)
    return net_of(one), net_of(other)


def _names_reaching(net):
    """The stations with outlet lags."""
    return [name for name, row in net[0].items() if least_of(row) is not None]


def _endless(left, right, names):
    """The stations that have works in sequence in the one net alone."""
    return [
        name for name in names
        if least_of(left[1][name, name]) is not None and least_of(right[1][name, name]) is None
    ]


def _chain_of(other, left, right, many):
    """Any so many tasks, each two in sequence in the one net, no two in the other one; None if there are none."""
    names = _names_reaching(left)
    endless = _endless(left, right, names)
    if endless:
        lag = least_of(left[1][endless[0], endless[0]])
        return [(1 + lag * at, endless[0]) for at in range(many)]
    return chains_in(other, left, right, names).found(many)
