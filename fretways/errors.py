"""All refusals of the program."""


class NeckError(ValueError):
    """Any refusal."""


class BadNeck(NeckError):
    """What was handed in is no neck."""


class BadShape(NeckError):
    """What was handed in is no shape on the neck."""


class BadHand(NeckError):
    """What was handed in is no hand, or no reach of one."""


class BadChord(NeckError):
    """What was handed in is no chord; of a list of chords, number tells which one."""

    def __init__(self, why, number=0):
        super().__init__(why)
        self.number = number


class BadTune(NeckError):
    """What was handed in is no tune."""


class BadText(NeckError):
    """What was handed in is no text of a shape."""
