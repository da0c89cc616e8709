"""The errors that the functions and classes of the package raise."""


class HintError(ValueError):
    """The base of all errors of the package."""


class BadRatio(HintError):
    """A ratio was asked for whose bottom is 0."""

    def __init__(self, bottom):
        self.bottom = bottom


class BadText(HintError):
    """A text is not that of a ratio."""


class BadShape(HintError):
    """A value is not the shape of a game or a hint."""


class BadPayoffs(HintError):
    """The row of payoffs at an index is missing, wrong or one too many."""

    def __init__(self, index):
        self.index = index


class BadWeights(HintError):
    """A value is not a list of weights, or a list is not a mix."""


class BadMoves(HintError):
    """The moves that are listed for a player are not different moves of this player."""

    def __init__(self, player):
        self.player = player


class BadRule(HintError):
    """A value is not a plan for a player."""

    def __init__(self, player):
        self.player = player


class BadRows(HintError):
    """Rows, or a list of numbers, are not of the form that is asked for."""


class BadBook(HintError):
    """A value is not a book for a game, or not a bet of it."""


class BadPoint(HintError):
    """A value is not a pair of ratios."""


class BadShares(HintError):
    """Shares, or a number of plays, are not of the form that is asked for."""


class NotOpposed(HintError):
    """The payoffs in a cell do not have the sum that those in the first cell have."""

    def __init__(self, cell):
        self.cell = cell


class NotTwo(HintError):
    """A game does not have two players."""

    def __init__(self, players):
        self.players = players


class NotClosed(HintError):
    """The balance of a book is above 0 in a cell."""

    def __init__(self, cell):
        self.cell = cell


class Mismatch(HintError):
    """Two shapes do not agree."""


class NoPlayer(HintError):
    """A value is not the number of a player."""

    def __init__(self, player):
        self.player = player


class NoMove(HintError):
    """A value is not the number of a move of a player."""

    def __init__(self, move):
        self.move = move


class NoCell(HintError):
    """A value is not a cell."""

    def __init__(self, cell):
        self.cell = cell


class BadName(HintError):
    """A value is not a name for a game on a bench."""

    def __init__(self, name):
        self.name = name


class NameTaken(HintError):
    """Another game on the bench has this name."""

    def __init__(self, name):
        self.name = name


class UnknownName(HintError):
    """No game on the bench has this name."""

    def __init__(self, name):
        self.name = name


class NothingToUndo(HintError):
    """No change of a bench can be taken back."""


class NothingToRedo(HintError):
    """No change of a bench can be done again."""


class BadLine(HintError):
    """A line of a text is not as described."""

    def __init__(self, line):
        self.line = line
