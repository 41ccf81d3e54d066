"""The refusals."""


class SleepError(ValueError):
    """Any refusal."""


class NoBodies(SleepError):
    """A program has no body."""


class TooMany(SleepError):
    """A program has too many bodies, or a body too many instructions."""


class NoInstruction(SleepError):
    """A tuple in a body is no instruction."""


class NoBody(SleepError):
    """An instruction names a body that the program does not have."""


class NoPlace(SleepError):
    """An instruction names a place that its body does not have."""


class NoStep(SleepError):
    """A state that has ended is asked for a step."""


class NoWords(SleepError):
    """Words tell no state."""


class NoFit(SleepError):
    """A state does not fit its program."""
