"""Rings: closed ways over links, and lines that are stuck by one."""

from owntimes.errors import Stuck
from owntimes.lines import check_line


def rings(line):
    """The ascending tuple of all rings of the line, each as the tuple of the indexes of its links."""
    check_line(line)
    return _rings_over(line, list(range(len(line.links))))


def stuck(line):
    """The least ring with the stock 0, None if there is none."""
    check_line(line)
    found = _rings_over(line, [at for at, link in enumerate(line.links) if link.stock == 0])
    return found[0] if found else None


def check_free(line):
    """Raise Stuck if the line is stuck."""
    ring = stuck(line)
    if ring is not None:
        raise Stuck(ring)


def _rings_over(line, indexes):
    """The ascending tuple of the rings over the links with these indexes alone."""
    names = line.names
    arrows = [(at, names.index(line.links[at].source), names.index(line.links[at].target)) for at in indexes]
    found = []
    for first in range(len(names)):
        found.extend(_rings_from(first, arrows))
    return tuple(sorted(found))


def _rings_from(first, arrows):
    """The rings that come to the station at this place, and to others behind it alone."""
    found = []
    ways = [((), first, (first,))]
    while ways:
        taken, place, seen = ways.pop()
        for at, source, target in arrows:
            if source == place and target == first:
                found.append(taken + (at,))
            elif source == place and target > first and target not in seen:
                ways.append((taken + (at,), target, seen + (target,)))
    return found
