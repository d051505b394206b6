"""The refusals: one class of errors for each kind."""


class LeanError(ValueError):
    """Any refusal."""


class BadName(LeanError):
    """What was to be a name is none."""


class Twice(LeanError):
    """What was to be told is there already."""


class TooMany(LeanError):
    """No room for one more thing."""


class NoThing(LeanError):
    """No thing of that name is there."""


class NoLeaning(LeanError):
    """The one thing does not lean on the other one."""


class BadRow(LeanError):
    """What was to be a right row is none."""


class NothingDone(LeanError):
    """Nothing is there to be taken back or done again."""


class Ring(LeanError):
    """A leaning would close a ring: the field ring is a list of its things."""

    def __init__(self, ring):
        # Without this call the error would keep the very list that was handed in.
        LeanError.__init__(self, "the leaning would close a ring")
        self.ring = list(ring)
