"""Trials, for `with` statements: they put back what was done in their block.

An owner of trials keeps all that can change in one list, its attribute `past`.
"""


class Kept:
    """The past that a statement found, and what is kept for the statement around it by the same object."""

    def __init__(self, past, around):
        self.past = past
        self.around = around


class Trial:
    """Puts the past of its owner back when a block ends, in whatever way."""

    def __init__(self, owner):
        self._owner = owner
        self._kept = None

    def __enter__(self):
        # The past is copied, as undoing may take away what was there ahead of the block.
        self._kept = Kept(list(self._owner.past), self._kept)
        return self._owner

    def __exit__(self, kind, value, trace):
        owner = self._owner
        owner.past = self._kept.past
        self._kept = self._kept.around


class Attempt:
    """Puts the past of its owner back when a block ends with an exception."""

    def __init__(self, owner):
        self._owner = owner
        self._kept = None

    def __enter__(self):
        self._kept = Kept(list(self._owner.past), self._kept)
        return self._owner

    def __exit__(self, kind, value, trace):
        owner = self._owner
        if kind is not None:
            owner.past = self._kept.past
        self._kept = self._kept.around
