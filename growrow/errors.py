"""What Growrow refuses: one error class for each refusal, all of them under GrowError."""


class GrowError(ValueError):
    pass


class BadRules(GrowError):
    pass


class BadRow(GrowError):
    pass


class BadLetter(GrowError):
    pass


class BadTimes(GrowError):
    pass


class BadPlace(GrowError):
    pass


class TooLong(GrowError):
    pass


class OtherRules(GrowError):
    pass
