"""What several tests share."""


def outcome(call, *args, **named):
    """What a call comes to: its result, or the class of its error and the error's attributes."""
    try:
        return call(*args, **named)
    except Exception as error:
        return type(error), vars(error)


class EqualsAll:
    """A value that says that it equals everything."""

    def __eq__(self, other):
        return True

    def __ne__(self, other):
        return False

    __hash__ = None


class FailsToCompare:
    """A value that cannot be compared."""

    def __eq__(self, other):
        raise RuntimeError("compared")

    __ne__ = __lt__ = __le__ = __gt__ = __ge__ = __eq__
    __hash__ = None
