"""The refusals: each has a class of its own straight beneath OnceError."""


class OnceError(ValueError):
    pass


class BadKinds(OnceError):
    pass


class BadWord(OnceError):
    pass


class TooMany(OnceError):
    pass


class NotOne(OnceError):
    pass


class NoSuch(OnceError):
    pass


class BadRule(OnceError):
    pass


class BadDeed(OnceError):
    pass


class NoRing(OnceError):
    def __init__(self, words, paper):
        OnceError.__init__(self, words)
        self.paper = paper


class BadText(OnceError):
    def __init__(self, words, at):
        OnceError.__init__(self, words)
        self.at = at
