"""The whole program: equal arguments, equal results, and nothing changed of what is passed."""

import inspect
import random
import unittest

from owntimes import certificates, checker, comparing, factors, matters, moments, orders, overlap, stuck, tables
from owntimes.books import Book
from owntimes.errors import Broken, NoAnswer, NotAsked
from owntimes.lines import Line, Link, Station
from tests.drawn import random_line, random_pair, random_times

INTERFACE = {
    stuck: ("rings", "stuck"), moments: ("moments", "end", "whole_end", "events", "under_way"),
    orders: ("order_lags", "outlet_lags", "reaching", "in_sequence"),
    overlap: ("may_overlap", "most_at_once", "overlapping"),
    comparing: ("never_later", "later_case", "same", "times_of"), factors: ("factor", "beyond", "head_start"),
    matters: ("idle_links", "idle_stations", "enough_stock", "enough_hands"), tables: ("table",),
    checker: ("accepts",), certificates: ("certify_later", "certify_never_later", "certify_at_once"),
}


def words(value):
    """A value with all that it is made of, told by words."""
    if isinstance(value, (tuple, list)):
        return [type(value).__name__, *[words(part) for part in value]]
    if isinstance(value, dict):
        return [(words(key), words(part)) for key, part in value.items()]
    return f"{type(value).__name__} {value!s}"


def same_line(line):
    """Another line that is equal to this one."""
    stations = tuple(Station(s.name, s.hands, timed=s.timed) for s in line.stations)
    links = tuple(Link(link.source, link.target, link.stock, early=link.early) for link in line.links)
    return Line(stations, links, line.outlet)


class WholeTest(unittest.TestCase):
    def arguments(self, chance):
        """For each function, by the names of its parameters, arguments that are valid."""
        one, other = random_pair(chance, stations=4, links=6)
        tasks = [(name, k) for name in one.timed for k in range(1, 6)]
        chance.shuffle(tasks)
        given = {
            "one": one, "other": other, "line": one, "times": random_times(chance, one, 6, 4),
            "number": chance.randint(1, 9), "moment": chance.randint(0, 9), "first": chance.choice(one.names),
            "second": chance.choice(one.names), "station": chance.choice(one.names), "tasks": tuple(tasks[:3]),
            "names": chance.choice((None, one.timed, one.timed[:1])), "whole": chance.random() < 0.5,
            "bound": chance.randint(0, 20), "link": 0, "case": (3, tuple(tasks[:2])),
            "claim": ("at once", str(one), 1), "certificate": (("a", 1),),
        }
        return given if one.links else self.arguments(chance)

    def result(self, function, given):
        try:
            found = function(**given)
            return list(found) if inspect.isgenerator(found) else found
        except NoAnswer as error:
            return type(error), words(tuple(vars(error).values()))

    def test_equal_arguments_equal_results(self):
        chance = random.Random(151)
        for _ in range(60):
            given = self.arguments(chance)
            again = {name: same_line(part) if isinstance(part, Line) else part for name, part in given.items()}
            again["times"] = dict(given["times"])
            for module, names in INTERFACE.items():
                for name in names:
                    function = getattr(module, name)
                    parts = list(inspect.signature(function).parameters)
                    before = words([given[part] for part in parts])
                    found = self.result(function, {part: given[part] for part in parts})
                    self.assertEqual(words([given[part] for part in parts]), before, name)
                    told = words(found)
                    other = self.result(function, {part: again[part] for part in reversed(parts)})
                    self.assertEqual(words(other), told, name)
                    self.assertEqual(other, found, name)
                    # Neither call has changed what the other one returned.
                    self.assertEqual(words(found), told, name)

    def test_parameters(self):
        told = {
            "rings": "line", "stuck": "line", "moments": "line times number", "end": "line times number",
            "whole_end": "line times number", "events": "line times number", "under_way": "line times number moment",
            "order_lags": "line first second", "outlet_lags": "line station", "reaching": "line number",
            "in_sequence": "line tasks", "may_overlap": "line tasks", "most_at_once": "line names",
            "overlapping": "line names", "never_later": "one other whole", "later_case": "one other whole",
            "same": "one other whole", "times_of": "case", "factor": "one other", "beyond": "one other bound",
            "head_start": "one other", "idle_links": "line", "idle_stations": "line", "enough_stock": "line link",
            "enough_hands": "line station", "table": "line", "accepts": "claim certificate",
            "certify_later": "one other bound", "certify_never_later": "one other", "certify_at_once": "line bound",
        }
        for module, names in INTERFACE.items():
            for name in names:
                function = getattr(module, name)
                self.assertEqual(" ".join(inspect.signature(function).parameters), told[name])
                self.assertEqual(function.__module__, module.__name__)

    def test_books_by_equal_changes(self):
        chance, seen = random.Random(152), 0
        for _ in range(40):
            books = Book(), Book()
            for _ in range(12):
                name, line = chance.choice("abc"), random_line(chance, stations=2, links=3, stock=2)
                names = books[0].names or ("a",)
                two = chance.choice(names), chance.choice(names)
                claim = chance.choice((("never later", *two), ("factor", *two, 2), ("at once", two[0], 3)))
                put = chance.random() < 0.6 or not books[0].names
                found = []
                for book, made in zip(books, (line, same_line(line))):
                    try:
                        if put:
                            book[name] = made
                        else:
                            book.claim(claim)
                        found.append(None)
                    except (Broken, NotAsked) as error:
                        found.append((type(error), vars(error)))
                        seen += 1
                self.assertEqual(found[0], found[1])
                told = [(book.names, book.claims, book.changes, [book[name] for name in book.names]) for book in books]
                self.assertEqual(told[0], told[1])
        self.assertGreater(seen, 50)


if __name__ == "__main__":
    unittest.main()
