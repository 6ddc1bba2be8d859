"""Books: lines under names, and claims of them that hold after each change."""

from owntimes.checks import check_index, check_known, check_name
from owntimes.claims import ask, check_claim, names_in
from owntimes.errors import InUse, NothingToUndo
from owntimes.lines import check_line
from owntimes.values import is_one_of


class Book:
    """Lines under names and a row of claims, at first without any."""

    def __init__(self):
        self._state = State({}, (), None)

    @property
    def names(self):
        """The names of the lines, ascending."""
        return tuple(sorted(list(self._state.lines)))

    @property
    def claims(self):
        """The claims in their order."""
        return self._state.said

    @property
    def changes(self):
        """How many changes can be taken back."""
        return self._state.number

    def remove(self, name):
        """Take the line with this name away."""
        check_known(name, self.names)
        for at, claim in enumerate(self._state.said):
            if name in names_in(claim):
                raise InUse(at)
        old = self._state.lines
        self._state = State({other: old[other] for other in old if other != name}, self._state.said, self._state)

    def claim(self, claim):
        """Make a claim more, behind the others."""
        check_claim(claim)
        for name in names_in(claim):
            check_known(name, self.names)
        said = self._state.said + (claim,)
        ask(said, self._state.lines)
        self._state = State(self._state.lines, said, self._state)

    def lift(self, index):
        """Take the claim with this index away."""
        said = self._state.said
        check_index(index, len(said))
        self._state = State(self._state.lines, said[:index] + said[index + 1:], self._state)

    def undo(self):
        """Take back the last change that has not been taken back."""
        if self._state.before is None:
            raise NothingToUndo()
        self._state = self._state.before

    def trial(self):
        """For a with statement: the book is as before if its rows end with an exception."""
        return Trial(self)

    def tried(self, action):
        """What the action returns, called with the book within a trial."""
        with Trial(self) as book:
            return action(book)

    def __getitem__(self, at):
        check_known(at, self.names)
        return self._state.lines[at]

    def __setitem__(self, at, worth):
        check_name(at)
        check_line(worth)
        lines = {name: line for name, line in self._state.lines.items()}
        lines[at] = worth
        ask(self._state.said, lines)
        self._state = State(lines, self._state.said, self._state)

    def __iter__(self):
        raise TypeError("a book is not gone over")

    def __contains__(self, x):
        return is_one_of(x, self.names)

    def __len__(self):
        return len(self._state.lines)

    def __bool__(self):
        return True


class State:
    """What a book holds between two changes, which never changes itself, and the state before the last change."""

    def __init__(self, lines, said, before):
        self.lines = lines
        self.said = said
        self.before = before
        self.number = 0 if before is None else before.number + 1


class Trial:
    """A trial with a book."""

    def __init__(self, book):
        self._book = book
        self._begun = None

    def __enter__(self):
        book = self._book
        self._begun = book._state
        return book

    def __exit__(self, kind, value, trace):
        book = self._book
        if kind is not None:
            book._state = self._begun
