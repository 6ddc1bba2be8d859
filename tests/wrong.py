"""Wrong values, and what is raised for them."""

NO_INTEGERS = (None, True, False, "1", "", b"1", (), (1,), [1], {1: 1}, object(), int)


class Odd:
    """A value that answers everything, but is of no listed kind."""

    def __eq__(self, other):
        return True

    def __hash__(self):
        return 1

    def __index__(self):
        return 1

    def __int__(self):
        return 1

    def __len__(self):
        return 1

    def __iter__(self):
        return iter((1,))

    def __getitem__(self, at):
        return 1


def raised(kind, call, *rest, **more):
    """The error of exactly this class that the call raises."""
    try:
        call(*rest, **more)
    except Exception as error:
        if type(error) is kind:
            return error
        raise AssertionError(f"{error!r} in the place of {kind}") from error
    raise AssertionError(f"no {kind}")
