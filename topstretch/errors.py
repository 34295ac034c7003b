"""The refusals: each stands straight under TopError."""


class TopError(ValueError):
    pass


class NoStretch(TopError):
    pass


class NoLength(TopError):
    pass


class NoCount(TopError):
    pass


class NoPlace(TopError):
    pass


class NoText(TopError):
    pass


class NoShape(TopError):
    pass


class NoneYet(TopError):
    pass


class NoRound(TopError):
    pass
