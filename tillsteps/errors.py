"""The errors that the functions of this package raise."""


class TillError(ValueError):
    """The base class of all errors here."""


class BadSteps(TillError):
    """What is passed as steps is no steps; index tells the first thing that is no step, or is None."""

    def __init__(self, index):
        self.index = index


class BadPrice(TillError):
    """What is passed as a price is no price."""


class BadNumber(TillError):
    """What is passed as a number of things asked for is no such number."""


class TooWide(TillError):
    """The widths of the steps go beyond what is decided; most is the greatest that is."""

    def __init__(self, most):
        self.most = most


class TooMany(TillError):
    """There are more steps than can be put into all orders; most is how many there may be."""

    def __init__(self, most):
        self.most = most


class Full(TillError):
    """The till takes no further price."""


class InvalidText(TillError):
    """The text tells no steps; line and word, both counted from 1, say where it goes wrong."""

    def __init__(self, line, word):
        self.line = line
        self.word = word


class BadPrices(TillError):
    """What is passed as prices is no prices; index tells the first thing that is no price, or is None."""

    def __init__(self, index):
        self.index = index
