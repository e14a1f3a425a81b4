"""The refusals."""


# One class above them all, so that a caller can take every refusal by one name.
class DeskError(ValueError):
    pass


class NoThing(DeskError):
    pass
