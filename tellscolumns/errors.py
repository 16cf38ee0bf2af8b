"""The refusals: one class for each."""


class TellError(ValueError):
    pass


class BadRules(TellError):
    pass


class BadSet(TellError):
    pass


class BadParts(TellError):
    pass


class BadTable(TellError):
    pass


class Unlike(TellError):
    pass


class BadText(TellError):
    pass
