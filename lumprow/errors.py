"""The refusals of Lumprow: each is of a class of its own, straight beneath LumpError."""


class LumpError(ValueError):
    pass


class BadRow(LumpError):
    pass


class TooMany(LumpError):
    pass


class BadText(LumpError):
    def __init__(self, at):
        LumpError.__init__(self, f"the text is wrong at {at}")
        self.at = at


class BadSeats(LumpError):
    pass


class BadTable(LumpError):
    pass


class BadDeed(LumpError):
    def __init__(self, at):
        LumpError.__init__(self, f"the deed can't be done at {at}")
        self.at = at


class Unlike(LumpError):
    pass


class NoRow(LumpError):
    pass
