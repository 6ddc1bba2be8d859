"""What does not matter in a line: links, stations, and stock or hands from some number on."""

from owntimes.checks import check_index, check_known
from owntimes.lines import check_line
from owntimes.nets import are_same, net_of
from owntimes.repeats import least_of, settled_from
from owntimes.stuck import check_free, stuck
from owntimes.ways import begin_of, end_of, reached_from, row_at


def idle_links(line):
    """The ascending tuple of the indexes of the links without which, each by itself, the line is the same."""
    check_line(line)
    check_free(line)
    net = net_of(line)
    return tuple([at for at in range(len(line.links)) if are_same(net, net_of(line.without(at)))])


def idle_stations(line):
    """The ascending tuple of the names of the timed stations without outlet lags."""
    check_line(line)
    check_free(line)
    outlets, _ = net_of(line)
    return tuple([name for name, row in outlets.items() if least_of(row) is None])


def enough_stock(line, link):
    """The least integer from which on the stock of this link is enough, None if there is none."""
    check_line(line)
    check_index(link, len(line.links))
    check_free(line)
    bare, old = line.without(link), line.links[link]
    source = begin_of(bare, old.source) if old.early else end_of(bare, old.source)
    least = _enough(bare, source, begin_of(bare, old.target))
    # A line that is stuck is not the same, whatever else holds.
    return 1 if least == 0 and stuck(line.with_stock(link, 0)) is not None else least


def enough_hands(line, station):
    """The least number from 1 on from which on the hands of this station are enough, None if there is none."""
    check_line(line)
    check_known(station, line.names)
    check_free(line)
    bare = line.with_hands(station, None)
    least = _enough(bare, end_of(bare, station), begin_of(bare, station))
    return None if least is None else max(1, least)


def _enough(bare, source, target):
    """The least lag from 0 on from which on any step from the one point to the other one is told by others already."""
    outlets, orders = net_of(bare)
    behind = reached_from(bare, target)
    least = 0
    for name, row in outlets.items():
        ahead = least_of(row_at(reached_from(bare, end_of(bare, name)), source))
        rows = [(row, end_of(bare, bare.outlet))]
        rows.extend([(orders[name, other], begin_of(bare, other)) for other in outlets if any(outlets[other][0])])
        for lags, point in rows:
            lag = least_of(row_at(behind, point))
            if ahead is not None and lag is not None:
                settled = settled_from(lags)
                if settled is None:
                    return None
                least = max(least, settled - ahead - lag)
    return least
