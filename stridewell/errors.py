"""The refusals of Stridewell, one class for each kind."""


class WellError(ValueError):
    """Any refusal."""


class BadSetting(WellError):
    """A setting is none: word names its first part that is none."""

    def __init__(self, word):
        super().__init__(f"the setting is none by its {word}")
        self.word = word


class BadGuesser(WellError):
    """A guesser is none."""


class BadRow(WellError):
    """A row is none: number is that of its first deed that is none."""

    def __init__(self, number):
        super().__init__(f"the row is none by its deed {number}")
        self.number = number


class BadAsk(WellError):
    """What is asked of guessers is beyond what may be asked."""


class BadText(WellError):
    """A text is no guesser's: place is the number of its first wrong word."""

    def __init__(self, place):
        super().__init__(f"the text is none by its word {place}")
        self.place = place
