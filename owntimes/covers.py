"""Closed ways, and those of the least lag that together go through the works of some stations."""

from owntimes.stuck import rings
from owntimes.ways import HAND, WORK, step_at


def closed_ways(line):
    """The closed ways that come to no point twice: those over each ring, and those by the hands of each station."""
    found = []
    for ring in rings(line):
        way = []
        for at in ring:
            if not line.links[at].early:
                way.append((WORK, line.links[at].source))
            way.append(at)
        found.append(tuple(way))
    for station in line.stations:
        if station.hands is not None:
            found.append(((WORK, station.name), (HAND, station.name)))
    return found


def works_on(line, way):
    """The pairs of the name of each station whose works a closed way goes through, and how far it is led on there."""
    found, far = [], 0
    for step in way:
        if isinstance(step, tuple) and step[0] == WORK:
            found.append((step[1], far))
        far = far + _lag_of(line, step)
    return found


def way_lag(line, way):
    """By how many numbers a way leads on."""
    return sum([_lag_of(line, step) for step in way])


def least_cover(line, names):
    """Closed ways of the least total lag that together go through the works of these stations; None if none do."""
    ways = closed_ways(line)
    parts = [(mask_of([name for name, _ in works_on(line, way)], names), way_lag(line, way)) for way in ways]
    found = cheapest((1 << len(names)) - 1, parts, {})
    if found is None:
        return None
    _, chosen = found
    return [ways[at] for at in chosen]


def mask_of(some, names):
    """The places of some of the names, as the bits of an integer."""
    return sum([1 << at for at, name in enumerate(names) if name in some])


def cheapest(todo, parts, known):
    """The least sum of the costs of parts that cover all bits, and their places; None if no parts do.

    Each part is a pair of the bits that it covers and its cost. What is found is kept in `known`.
    """
    if todo == 0:
        return 0, ()
    if todo not in known:
        lowest = todo & -todo
        best = None
        for at, (mask, cost) in enumerate(parts):
            rest = cheapest(todo & ~mask, parts, known) if mask & lowest else None
            if rest is not None and (best is None or cost + rest[0] < best[0]):
                best = cost + rest[0], (at,) + rest[1]
        known[todo] = best
    return known[todo]


def _lag_of(line, step):
    """By how many numbers a step leads on."""
    lag, _, _ = step_at(line, step)
    return lag
