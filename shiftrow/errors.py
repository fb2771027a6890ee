"""The refusals of the program."""


class TapeError(ValueError):
    """Any refusal."""


class BadSets(TapeError):
    """The sets cannot be: `why` is "first" or "second"."""

    def __init__(self, why):
        TapeError.__init__(self, f"the {why} text cannot be a set of signs")
        self.why = why


class BadTape(TapeError):
    """The tape cannot be: `at` is the place of its first code that cannot be."""

    def __init__(self, at):
        TapeError.__init__(self, f"the code at {at} cannot be on the tape")
        self.at = at


class NoSign(TapeError):
    """The text cannot be on a tape: `at` is the place of its first sign that stands in no set."""

    def __init__(self, at):
        TapeError.__init__(self, f"the sign at {at} stands in no set")
        self.at = at


class BadNumber(TapeError):
    """A number is not one of those that can be handed in."""


class BadText(TapeError):
    """The text is no written tape: `place` is that of its first word that is no code."""

    def __init__(self, place):
        TapeError.__init__(self, f"the word at {place} is no code")
        self.place = place
