"""All refusals of the program."""


class WhoError(ValueError):
    """Any refusal."""


class BadProgram(WhoError):
    """A program with a deed that is none, or with one too many, at `place`."""

    def __init__(self, place):
        WhoError.__init__(self, f"no deed at place {place}")
        self.place = place


class BadYoung(WhoError):
    """A young room that is too small or too large."""


class BadSteps(WhoError):
    """Steps that are too few, too many, or not in their bounds."""


class NoThing(WhoError):
    """A number of which a photo has no thing."""


class BadTimes(WhoError):
    """A number of times that is out of its bounds."""


class BadPhotos(WhoError):
    """Too few or too many photos."""


class BadText(WhoError):
    """A text with a row that is no deed, or with one too many, at `row`."""

    def __init__(self, row):
        WhoError.__init__(self, f"no deed in row {row}")
        self.row = row
