"""All refusals of the program."""


class LiarError(ValueError):
    """Stands above every refusal, so that one name takes them all."""


class BadNumber(LiarError):
    """What is no few, or no number within told bounds."""


class BadWorths(LiarError):
    """What is no list of numbers, pairs, points or spans, or one of which too little would be left."""


class BadLies(LiarError):
    """What are no lies, or no errors of readings."""


class BadHouses(LiarError):
    """What are no houses, no liars, or too few houses."""


class NoHouse(LiarError):
    """What is no house of the asked kind."""

    def __init__(self, house):
        # The house may be a thing of any kind, also one that can't be shown as a text.
        LiarError.__init__(self, "no such house")
        self.house = house


class NoLetter(LiarError):
    """A place at which no letter is on its way."""


class NotNow(LiarError):
    """A deed that can't be done as things stand."""


class BadTable(LiarError):
    """What are no rules, no bits, or no lies of one of three houses."""


class BadSaying(LiarError):
    """What is no saying, or was never said."""
