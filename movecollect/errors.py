"""The refusals."""


class HeapError(ValueError):
    """Any refusal."""


class NoThing(HeapError):
    """A thing is wanted where no pointer leads to one."""


class NoField(HeapError):
    """The thing has no field of that number."""


class NoRoot(HeapError):
    """The heap has no root of that number."""
