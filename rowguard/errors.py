"""The refusals of the program."""


class GuardError(ValueError):
    """Any refusal."""


class NoKind(GuardError):
    """A text stands where a kind should, and is none."""


class NotFine(GuardError):
    """Rows should be fine with the kinds given, and have a fault."""


class NotSo(GuardError):
    """The things on a pile should be of just the kinds given, and aren't."""
