"""Checks of what is passed, each with the error that it raises."""

from owntimes.errors import InvalidFlag, InvalidHands, InvalidIndex, InvalidName, InvalidNumber, InvalidStock
from owntimes.errors import InvalidNames, InvalidTasks, InvalidTimes, UnknownName
from owntimes.limits import MOST_HANDS, MOST_NUMBER, MOST_STOCK
from owntimes.values import is_between, is_from, is_name, is_one_of, is_task


def check_name(value):
    """Raise InvalidName if the value is no name."""
    if not is_name(value):
        raise InvalidName(value)


def check_hands(value):
    """Raise InvalidHands if the value is no number of hands and not None."""
    if value is not None and not is_between(value, 1, MOST_HANDS):
        raise InvalidHands(value)


def check_stock(value):
    """Raise InvalidStock if the value is no stock of a link."""
    if not is_between(value, 0, MOST_STOCK):
        raise InvalidStock(value)


def check_flag(value):
    """Raise InvalidFlag if the value is neither True nor False."""
    if not isinstance(value, bool):
        raise InvalidFlag(value)


def check_known(value, names):
    """Raise UnknownName if the value is none of the names."""
    if not is_one_of(value, names):
        raise UnknownName(value)


def check_index(value, many):
    """Raise InvalidIndex if the value is no index of one of so many."""
    if not is_between(value, 0, many - 1):
        raise InvalidIndex(value)


def check_number(value):
    """Raise InvalidNumber if the value is no number up to which works are looked at."""
    if not is_between(value, 1, MOST_NUMBER):
        raise InvalidNumber(value)


def check_bound(value, most):
    """Raise InvalidNumber if the value is no bound up to this one."""
    if not is_between(value, 0, most):
        raise InvalidNumber(value)


def check_moment(value):
    """Raise InvalidNumber if the value is no moment."""
    if not is_from(value, 0):
        raise InvalidNumber(value)


def check_times(value):
    """Raise InvalidTimes if the value is no dict from tasks, of any line, to integers from 0 on."""
    if not isinstance(value, dict):
        raise InvalidTimes(value)
    for task, span in value.items():
        if not is_task(task) or not is_from(span, 0):
            raise InvalidTimes(value)


def check_tasks(value, names):
    """Raise InvalidTasks if the value is no tuple of different tasks of the stations with these names."""
    if not isinstance(value, tuple):
        raise InvalidTasks(None)
    seen = {}
    for at, task in enumerate(value):
        if not is_task(task) or not is_one_of(task[0], names) or task in seen:
            raise InvalidTasks(at)
        seen[task] = True


def check_names(value, names):
    """Raise InvalidNames if the value is neither None nor a tuple of different ones of these names."""
    if value is None:
        return
    if not isinstance(value, tuple):
        raise InvalidNames(None)
    for at, name in enumerate(value):
        if not is_one_of(name, names) or name in value[:at]:
            raise InvalidNames(at)
