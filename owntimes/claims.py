"""Claims of a book: what is one, and whether it holds for the lines that it speaks of."""

from owntimes.comparing import later_case
from owntimes.errors import Broken, InvalidClaim, NotAsked, Stuck
from owntimes.factors import factor, has_head_start, head_start
from owntimes.overlap import most_at_once
from owntimes.values import is_between, is_one_of

_MOST_NUMBER = 1000
_SIZES = {"never later": 3, "same": 3, "factor": 4, "head start": 4, "at once": 3}
_WITH_NUMBER = ("factor", "head start", "at once")


def check_claim(value):
    """Raise InvalidClaim if the value has not the form of a claim, whatever stands for its lines."""
    if not isinstance(value, tuple) or not value or not is_one_of(value[0], list(_SIZES)):
        raise InvalidClaim(value)
    if len(value) != _SIZES[value[0]]:
        raise InvalidClaim(value)
    if value[0] in _WITH_NUMBER and not is_between(value[-1], 0, _MOST_NUMBER):
        raise InvalidClaim(value)


def names_in(claim):
    """The names of the lines that a claim speaks of."""
    return claim[1:2] if claim[0] == "at once" else claim[1:3]


def ask(claims, lines):
    """Raise the error of the first of the claims that cannot be asked of these lines, or does not hold for them."""
    for at, claim in enumerate(claims):
        try:
            holds, shown = _answer(claim, [lines[name] for name in names_in(claim)])
        except Stuck as error:
            raise NotAsked(at) from error
        if not holds:
            raise Broken(at, shown)


def _answer(claim, lines):
    """Whether a claim holds for its lines, and what shows it if not."""
    word, number = claim[0], claim[-1]
    if word == "at once":
        most = most_at_once(lines[0])
        return most is not None and most <= number, most
    one, other = lines
    if word == "factor":
        most = factor(one, other)
        return most is not None and most <= number, most
    if word == "head start":
        holds = has_head_start(one, other, number)
        return holds, None if holds else head_start(one, other)
    case = later_case(one, other)
    if word == "same" and case is None:
        case = later_case(other, one)
    return case is None, case
