"""The refusals of the program: each one a class of its own below TrueError."""


class TrueError(ValueError):
    pass


class NoRatio(TrueError):
    pass


class NoNext(TrueError):
    pass


class NoRoot(TrueError):
    pass


class Unfit(TrueError):
    pass


class Dependent(TrueError):
    # Only the text goes to the base, else str would tell the weights too.
    # The default is None, so that no two refusals share one empty list.
    def __init__(self, text, weights=None):
        TrueError.__init__(self, text)
        self.weights = [] if weights is None else list(weights)


class NoLine(TrueError):
    pass


class BadText(TrueError):
    # Only the text goes to the base, else str would tell the place too.
    def __init__(self, text, at=0):
        TrueError.__init__(self, text)
        self.at = at


class TooGreat(TrueError):
    pass


class BadRow(TrueError):
    pass


class NoRow(TrueError):
    pass


class NoColumn(TrueError):
    pass


class TooMany(TrueError):
    pass
