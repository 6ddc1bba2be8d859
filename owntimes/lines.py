"""Lines: stations, the links between them, and the outlet."""

from owntimes.checks import check_flag, check_hands, check_index, check_known, check_name, check_stock
from owntimes.errors import EarlyLink, InvalidLinks, InvalidOutlet, InvalidStations, InvalidText, NotALine, NotALink
from owntimes.errors import Taken, WrongValue
from owntimes.limits import MOST_LINKS, MOST_STATIONS
from owntimes.values import is_one_of

_STATION = "station "
_LINK = "link "
_OUTLET = "outlet "
_NO_TIME = ", no time"
_EARLY = ", early"
_HANDS = {"any": None, "1": 1, "2": 2, "3": 3, "4": 4}
_STOCKS = {"0": 0, "1": 1, "2": 2, "3": 3, "4": 4, "5": 5}
_NEVER = -1


class Station:
    """A place of works, with a number of hands (None for no limit), timed or not."""

    def __init__(self, name, hands=1, *, timed=True):
        check_name(name)
        check_hands(hands)
        check_flag(timed)
        self._name = name
        self._hands = hands
        self._timed = timed

    @property
    def name(self):
        """The name."""
        return self._name

    @property
    def hands(self):
        """How many works can be under way at once, None for no limit."""
        return self._hands

    @property
    def timed(self):
        """Whether its works take time."""
        return self._timed

    def __eq__(self, other):
        return (
            isinstance(other, Station) and self._name == other._name
            and self._hands == other._hands and self._timed == other._timed
        )

    def __str__(self):
        return f"{_STATION}{self._name}: hands {_word_of(self._hands)}{_words_if(not self._timed, _NO_TIME)}"


class Link:
    """What leads from the works of a station to later ones of a station, perhaps the same one."""

    def __init__(self, source, target, stock=0, *, early=False):
        check_name(source)
        check_name(target)
        check_stock(stock)
        check_flag(early)
        self._source = source
        self._target = target
        self._stock = stock
        self._early = early

    @property
    def source(self):
        """The name of the station from which it leads."""
        return self._source

    @property
    def target(self):
        """The name of the station to which it leads."""
        return self._target

    @property
    def stock(self):
        """By how many numbers the works of the target come behind those of the source."""
        return self._stock

    @property
    def early(self):
        """Whether the beginnings of the source's works do, in the place of their ends."""
        return self._early

    def __eq__(self, other):
        return (
            isinstance(other, Link) and self._source == other._source and self._target == other._target
            and self._stock == other._stock and self._early == other._early
        )

    def __str__(self):
        return f"{_LINK}{self._source} -> {self._target}: stock {self._stock}{_words_if(self._early, _EARLY)}"


class Line:
    """Stations with different names and the links between them, both in an order, and the outlet's name."""

    def __init__(self, stations, links, outlet):
        _check_stations(stations)
        names = [station.name for station in stations]
        _check_links(links, names)
        if not is_one_of(outlet, names):
            raise InvalidOutlet(outlet)
        self._stations = stations
        self._links = links
        self._outlet = outlet

    @classmethod
    def read(cls, text):
        """The line with this text."""
        if not isinstance(text, str):
            raise InvalidText(text)
        try:
            found = _line_in(text)
        except WrongValue:
            raise InvalidText(text) from None
        # What stood elsewhere, or in other words, is told by the line's own text.
        if str(found) != text:
            raise InvalidText(text)
        return found

    @property
    def stations(self):
        """The stations in their order."""
        return self._stations

    @property
    def links(self):
        """The links in their order."""
        return self._links

    @property
    def outlet(self):
        """The name of the outlet."""
        return self._outlet

    @property
    def names(self):
        """The names of the stations in their order."""
        return tuple([station.name for station in self._stations])

    @property
    def timed(self):
        """The names of the timed stations, ascending."""
        return tuple(sorted([station.name for station in self._stations if station.timed]))

    def with_stock(self, link, stock):
        """The line with another stock of the link with this index."""
        check_index(link, len(self._links))
        old = self._links[link]
        new = Link(old.source, old.target, stock, early=old.early)
        return Line(self._stations, self._links[:link] + (new,) + self._links[link + 1:], self._outlet)

    def with_hands(self, station, hands):
        """The line with another number of hands of this station."""
        check_known(station, self.names)
        stations = [
            Station(old.name, hands, timed=old.timed) if old.name == station else old for old in self._stations
        ]
        return Line(tuple(stations), self._links, self._outlet)

    def with_outlet(self, station):
        """The line with this station as its outlet."""
        check_known(station, self.names)
        return Line(self._stations, self._links, station)

    def without(self, link):
        """The line without the link with this index."""
        check_index(link, len(self._links))
        return Line(self._stations, self._links[:link] + self._links[link + 1:], self._outlet)

    def with_link(self, new):
        """The line with this link more, behind the others."""
        if not isinstance(new, Link):
            raise NotALink(new)
        return Line(self._stations, self._links + (new,), self._outlet)

    def turned(self):
        """The line in which each link leads the other way."""
        for at, link in enumerate(self._links):
            if link.early:
                raise EarlyLink(at)
        links = [Link(link.target, link.source, link.stock) for link in self._links]
        return Line(self._stations, tuple(links), self._outlet)

    def __add__(self, other):
        check_line(other)
        for name in other.names:
            if name in self.names:
                raise Taken(name)
        return Line(self._stations + other.stations, self._links + other.links, self._outlet)

    def __getitem__(self, at):
        check_known(at, self.names)
        found = [station for station in self._stations if station.name == at]
        return found[0]

    def __iter__(self):
        raise TypeError("a line is not gone over")

    def __len__(self):
        return len(self._stations)

    def __eq__(self, other):
        return isinstance(other, Line) and str(self) == str(other)

    def __str__(self):
        return "\n".join(_rows_of(self))

    def __repr__(self):
        return f"Line of {len(self._stations)} stations, {len(self._links)} links"


def check_line(value):
    """Raise NotALine if the value is no line."""
    if not isinstance(value, Line):
        raise NotALine(value)


def _word_of(hands):
    """The word for a number of hands."""
    return "any" if hands is None else str(hands)


def _words_if(so, words):
    """These words, or none."""
    return words if so else ""


def _rows_of(line):
    """The rows of the text of a line."""
    parts = [*line.stations, *line.links]
    return [*[str(part) for part in parts], f"{_OUTLET}{line.outlet}"]


def _check_stations(values):
    """Raise InvalidStations if the values are no stations of one line."""
    if not isinstance(values, tuple) or not values:
        raise InvalidStations(None)
    seen = []
    for at, value in enumerate(values):
        if at >= MOST_STATIONS or not isinstance(value, Station) or value.name in seen:
            raise InvalidStations(at)
        seen.append(value.name)


def _check_links(values, names):
    """Raise InvalidLinks if the values are no links between the stations with these names."""
    if not isinstance(values, tuple):
        raise InvalidLinks(None)
    for at, value in enumerate(values):
        if at >= MOST_LINKS or not isinstance(value, Link):
            raise InvalidLinks(at)
        if value.source not in names or value.target not in names:
            raise InvalidLinks(at)


def _line_in(text):
    """The line that the rows of a text tell, whatever else stands in them; WrongValue if they tell none."""
    rows = text.split("\n")
    stations = [_station_in(row) for row in rows if row.startswith(_STATION)]
    links = [_link_in(row) for row in rows if row.startswith(_LINK)]
    return Line(tuple(stations), tuple(links), rows[-1].removeprefix(_OUTLET))


def _station_in(row):
    """The station that a row tells."""
    name, _, rest = row.removeprefix(_STATION).partition(": hands ")
    hands, comma, _ = rest.partition(",")
    return Station(name, _HANDS.get(hands, _NEVER), timed=not comma)


def _link_in(row):
    """The link that a row tells."""
    ends, _, rest = row.removeprefix(_LINK).partition(": stock ")
    source, _, target = ends.partition(" -> ")
    stock, comma, _ = rest.partition(",")
    return Link(source, target, _STOCKS.get(stock, _NEVER), early=bool(comma))
