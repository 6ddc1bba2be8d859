"""Certificates of this package: None exactly where the document says so, and accepted otherwise."""

import random
import unittest

from owntimes import certificates
from owntimes.certificates import certify_at_once, certify_later, certify_never_later
from owntimes.checker import accepts
from owntimes.comparing import never_later
from owntimes.errors import InvalidNumber, NotALine, Stuck
from owntimes.factors import beyond, factor
from owntimes.lines import Line, Link, Station
from owntimes.overlap import most_at_once
from tests.drawn import joined, random_free_line, random_pair
from tests.judge import judge
from tests.test_line_changes import NO_LINES
from tests.wrong import NO_INTEGERS, Odd, raised

CHAIN = Line((Station("a"), Station("b")), (Link("a", "b"),), "b")
SINGLE = CHAIN.with_link(Link("b", "a", 1))
STUCK = CHAIN.with_link(Link("b", "a"))
STUCK_TOO = Line((Station("a"), Station("b")), (Link("b", "b"), Link("a", "a")), "b")
SIX = tuple(Station(f"s{at}", None) for at in range(6))
RING = tuple(Link(f"s{at}", f"s{(at + 1) % 6}", 5) for at in range(6))


class Certified(unittest.TestCase):
    def check(self, found, claim, judged=True):
        """The pair has this claim, and a certificate that is accepted."""
        self.assertEqual((type(found), len(found)), (tuple, 2))
        self.assertEqual(found[0], claim)
        self.assertIs(accepts(*found), True, found)
        if judged:
            self.assertIs(judge(*found), True, found)
        return found[1]

    def check_later(self, one, other, bound):
        found, case = certify_later(one, other, bound), beyond(one, other, bound)
        self.assertEqual(found is None, case is None)
        if found is not None:
            number, tasks = self.check(found, ("later", str(one), str(other), bound))
            self.assertLessEqual(number, 20000)
            self.assertIs(accepts(found[0], case), True)
            self.assertEqual(found, certify_later(bound=bound, other=other, one=one))

    def check_never_later(self, one, other):
        found = certify_never_later(one, other)
        self.assertEqual(found is None, not never_later(one, other))
        if found is not None:
            self.check(found, ("never later", str(one), str(other)))
            self.assertEqual(found, certify_never_later(other=other, one=one))
        return found

    def check_at_once(self, line, bound):
        most, found = most_at_once(line), certify_at_once(line, bound)
        if most is None or most >= bound:
            certificate = self.check(found, ("at once", str(line), bound))
            self.assertEqual(len(certificate), bound)
        else:
            self.check(found, ("not at once", str(line), bound - 1))
        self.assertEqual(found, certify_at_once(bound=bound, line=line))


class LaterTest(Certified):
    def test_drawn_lines(self):
        chance, seen = random.Random(141), {}
        for _ in range(250):
            one, other = random_pair(chance)
            if chance.random() < 0.5 and one.names == other.names and len(one.names) < 6 and len(one.links) < 6:
                if len(other.links) < 6:
                    one, other = joined(one), joined(other)
            most = factor(one, other)
            for bound in {0, 1, 2, chance.randint(3, 20)}:
                self.check_later(one, other, bound)
            seen[most] = seen.get(most, 0) + 1
        self.assertGreater(len(seen), 3, seen)

    def test_every_bound(self):
        ring = Line(SIX, RING, "s0")
        loops = tuple(Link(station.name, station.name, 5) for station in SIX[:5])
        most = joined(Line(tuple(Station(station.name) for station in SIX[:5]), (), "s0"))
        pairs = [
            (SINGLE, CHAIN), (CHAIN, SINGLE), (CHAIN, CHAIN.with_hands("b", None)), (CHAIN, CHAIN.without(0)),
            (joined(CHAIN), joined(CHAIN).with_hands("a", None)), (ring, ring.without(0)),
            (ring.with_stock(2, 4), ring),
            (most, joined(Line(SIX[:5], loops, "s0"))),
            (joined(Line(SIX[:5], (*RING[:4], Link("s4", "s0", 5)), "s0")), joined(Line(SIX[:5], loops, "s0"))),
        ]
        for one, other in pairs:
            for bound in range(21):
                self.check_later(one, other, bound)

    def test_by_default(self):
        self.assertEqual(certify_later(SINGLE, CHAIN), certify_later(SINGLE, CHAIN, 1))
        self.assertEqual(certify_later(other=CHAIN, one=SINGLE)[0], ("later", str(SINGLE), str(CHAIN), 1))
        self.assertIsNone(certify_later(CHAIN, SINGLE))
        self.assertIsNone(certify_later(SINGLE, CHAIN, 2))

    def test_refused(self):
        for wrong in NO_LINES:
            self.assertIs(raised(NotALine, certify_later, wrong, None, None).given, wrong)
            self.assertIs(raised(NotALine, certify_later, STUCK, wrong, None).given, wrong)
        for wrong in (*NO_INTEGERS, Odd(), -1, 21, 10 ** 39, -(10 ** 39), CHAIN):
            self.assertIs(raised(InvalidNumber, certify_later, STUCK, CHAIN, wrong).given, wrong)
            self.assertIs(raised(InvalidNumber, certify_later, CHAIN, CHAIN, bound=wrong).given, wrong)
        self.assertEqual(raised(Stuck, certify_later, STUCK, STUCK_TOO, 20).ring, (0, 1))
        self.assertEqual(raised(Stuck, certify_later, CHAIN, STUCK_TOO, 0).ring, (0,))


class NeverLaterTest(Certified):
    def test_drawn_lines(self):
        chance, seen = random.Random(142), [0, 0]
        for _ in range(150):
            one, other = random_pair(chance, stations=4, links=7)
            seen[self.check_never_later(one, other) is not None] += 1
        self.assertGreater(min(seen), 20)

    def test_a_line_and_itself(self):
        chance = random.Random(143)
        for _ in range(40):
            line = random_free_line(chance)
            self.check_never_later(line, line)

    def test_late_lags(self):
        ring = Line(SIX, RING, "s0")
        both = ring.with_link(Link("s0", "s1", 4))
        for one, other, found in ((ring, both, True), (both, ring, False), (both, both, True)):
            pair = certify_never_later(one, other)
            self.assertIs(pair is not None, found)
            if found:
                self.assertIs(accepts(*pair), True)

    def test_no_timed_stations(self):
        bare = Line((Station("g", timed=False),), (), "g")
        self.assertEqual(certify_never_later(bare, bare), (("never later", str(bare), str(bare)), ((), ())))
        self.check_never_later(bare, CHAIN)
        self.check_never_later(CHAIN, bare)

    def test_refused(self):
        for wrong in NO_LINES:
            self.assertIs(raised(NotALine, certify_never_later, wrong, None).given, wrong)
            self.assertIs(raised(NotALine, certify_never_later, STUCK, wrong).given, wrong)
        self.assertEqual(raised(Stuck, certify_never_later, STUCK, STUCK_TOO).ring, (0, 1))
        self.assertEqual(raised(Stuck, certify_never_later, CHAIN, STUCK_TOO).ring, (0,))


class AtOnceTest(Certified):
    def test_every_bound(self):
        loops = tuple(Link(station.name, station.name, 5) for station in SIX)
        hub = tuple(link for at in range(1, 6) for link in (Link("s0", f"s{at}", 5), Link(f"s{at}", "s0", 5)))
        for line in (
            CHAIN, SINGLE, CHAIN.with_hands("a", None), Line(SIX, RING, "s0"), Line(SIX, loops, "s0"),
            Line(SIX, hub, "s0"), Line(SIX[:1], (), "s0"), Line((Station("g", timed=False),), (), "g"),
            Line((*SIX[:2], Station("b", 4)), (Link("s0", "s1"), Link("s1", "s0", 3)), "b"),
        ):
            for bound in range(61):
                self.check_at_once(line, bound)

    def test_drawn_lines(self):
        chance = random.Random(144)
        for _ in range(150):
            line = random_free_line(chance, links=chance.choice((4, 8, 12)))
            most = most_at_once(line)
            for bound in {0, 1, chance.randint(2, 60), *([] if most is None else (most, most + 1))}:
                self.check_at_once(line, bound)

    def test_refused(self):
        for wrong in NO_LINES:
            self.assertIs(raised(NotALine, certify_at_once, wrong, None).given, wrong)
        for wrong in (*NO_INTEGERS, Odd(), -1, 61, 10 ** 39, -(10 ** 39), CHAIN):
            self.assertIs(raised(InvalidNumber, certify_at_once, STUCK, wrong).given, wrong)
            self.assertIs(raised(InvalidNumber, certify_at_once, bound=wrong, line=CHAIN).given, wrong)
        for bound in (0, 1, 60):
            self.assertEqual(raised(Stuck, certify_at_once, STUCK_TOO, bound).ring, (0,))

    def test_modules(self):
        for name in ("certify_later", "certify_never_later", "certify_at_once"):
            self.assertEqual(getattr(certificates, name).__module__, "owntimes.certificates")


if __name__ == "__main__":
    unittest.main()
