"""Drawn inputs."""

from owntimes.lines import Line, Link, Station
from tests import walks

NAMES = ("a", "b", "c", "z", "a1", "ab", "b0", "weld", "cut2", "abcdefgh", "z9999999", "q")


def random_parts(chance, most=12, periods=(1, 2, 3, 4, 5, 6, 7, 8, 9, 10, 12)):
    single = tuple(chance.randrange(most) for _ in range(chance.randrange(5)))
    again = tuple(chance.randrange(most) for _ in range(chance.choice((0, 1, 1, 2, 3, 5))))
    return single, again, chance.choice(periods)


def random_line(chance, stations=6, links=12, stock=5, hands=4):
    """A line with up to so many stations and links, stuck or not."""
    names = chance.sample(NAMES, chance.randint(1, stations))
    hands_of = (None, *range(1, hands + 1))
    made = [Station(name, chance.choice(hands_of), timed=chance.random() < 0.8) for name in names]
    joined = [
        Link(chance.choice(names), chance.choice(names), chance.randint(0, stock), early=chance.random() < 0.25)
        for _ in range(chance.randint(0, links))
    ]
    return Line(tuple(made), tuple(joined), chance.choice(names))


def random_free_line(chance, stations=6, links=12, stock=5, hands=4):
    """Likewise, but no line that is stuck."""
    while True:
        line = random_line(chance, stations, links, stock, hands)
        if not walks.is_stuck(line):
            return line


def random_times(chance, line, number, most, share=0.7):
    """Times for some of the works up to this number, of the line's stations and of others."""
    names = [*line.names, "nobody"]
    return {
        (name, k): chance.randint(0, most)
        for name in names for k in range(1, number + 1) if chance.random() < share
    }


def changed_line(chance, line, times=1, stock=5, links=12):
    """The line with so many things changed, that is not stuck."""
    while True:
        new = line
        for _ in range(times):
            kind = chance.choice(("stock", "hands", "less", "more", "outlet"))
            if kind == "stock" and new.links:
                new = new.with_stock(chance.randrange(len(new.links)), chance.randint(0, stock))
            elif kind == "hands":
                new = new.with_hands(chance.choice(new.names), chance.choice((None, 1, 2, 3, 4)))
            elif kind == "less" and new.links:
                new = new.without(chance.randrange(len(new.links)))
            elif kind == "more" and len(new.links) < links:
                ends = chance.choice(new.names), chance.choice(new.names)
                new = new.with_link(Link(*ends, chance.randint(0, stock), early=chance.random() < 0.25))
            elif kind == "outlet" and chance.random() < 0.2:
                new = new.with_outlet(chance.choice(new.names))
        if not walks.is_stuck(new):
            return new


def random_pair(chance, stations=6, links=12, stock=5):
    """Two lines that are not stuck: mostly one and what it becomes by one or two changes."""
    one = random_free_line(chance, stations, links, stock)
    other = changed_line(chance, one, chance.choice((0, 1, 1, 1, 2, 2, 3)), stock, links)
    if chance.random() < 0.15:
        other = random_free_line(chance, stations, links, stock)
    return (one, other) if chance.random() < 0.5 else (other, one)


def joined(line):
    """The line with one more station as its outlet: each task reaches each number from its own on."""
    stations = (*line.stations, Station("out", timed=False))
    links = [Link(name, "out") for name in line.names]
    return Line(stations, (*line.links, *links), "out")


def wide_pair(chance):
    """Two lines of one to five stations and an outlet behind all; in the other one many works can be under way."""
    while True:
        names = chance.sample("abcde", chance.randint(1, 5))
        hands = chance.choice(((None,), (None, 4), (3, 4), (4, None, 2)))
        links = [
            (chance.choice(names), chance.choice(names), chance.randint(1, 5), chance.random() < 0.15)
            for _ in range(chance.randint(0, 6))
        ]
        if chance.random() < 0.6:
            links += [(name, other, chance.randint(2, 5), False) for name, other in zip(names, names[1:] + names[:1])]
        made = [Link(*link[:3], early=link[3]) for link in links[:7]]
        other = Line(tuple(Station(name, chance.choice(hands)) for name in names), tuple(made), names[0])
        # The one line has fewer hands, less stock and some links more.
        hands = chance.choice(((1,), (1, 2), (2,), (2, 3), (None, 1, 3)))
        less = [Link(*link[:2], max(0, link[2] - chance.choice((0, 0, 1, 2))), early=link[3]) for link in links[:7]]
        while len(less) < 7 and chance.random() < 0.5:
            less.append(Link(chance.choice(names), chance.choice(names), chance.randint(0, 5)))
        one = Line(tuple(Station(name, chance.choice(hands)) for name in names), tuple(less), names[0])
        if not walks.is_stuck(one) and not walks.is_stuck(other):
            return joined(one), joined(other)
