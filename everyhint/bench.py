"""A bench of named games, with undo and trials."""

from everyhint.compared import grouped, is_alike
from everyhint.errors import BadName, NameTaken, NothingToRedo, NothingToUndo, UnknownName
from everyhint.games import kept
from everyhint.possible import possible_cells
from everyhint.struck import left

LONGEST_NAME = 8


def check_name(name):
    """Raise BadName unless a value is a string of 1 to 8 letters from a to z."""
    if not isinstance(name, str) or not 1 <= len(name) <= LONGEST_NAME:
        raise BadName(name)
    if not all(["a" <= letter <= "z" for letter in name]):
        raise BadName(name)


def check_new(games, name):
    """Raise BadName or NameTaken unless a value can be the name of one more game."""
    check_name(name)
    if name in games:
        raise NameTaken(name)


def check_known(games, name):
    """Raise UnknownName unless a value is the name of a game."""
    if not isinstance(name, str) or name not in games:
        raise UnknownName(name)


class Moment:
    """What a bench is at a time, and the moment that was kept before, or None."""

    def __init__(self, bench, before):
        self.games = bench._games
        self.past = list(bench._past)
        self.ahead = list(bench._ahead)
        self.before = before


class Trial:
    """A block at whose end a bench is again as it was when the block began."""

    def __init__(self, bench):
        self._bench = bench
        self._moment = None

    def __enter__(self):
        # The earlier moment is kept as well, because a block may use the trial of a block around it.
        self._moment = Moment(self._bench, self._moment)
        return self._bench

    def __exit__(self, kind, value, trace):
        self._bench._games = self._moment.games
        self._bench._past = self._moment.past
        self._bench._ahead = self._moment.ahead
        self._moment = self._moment.before


class Bench:
    """Named games, and the changes that can be taken back and done again."""

    def __init__(self):
        # A dict of games is replaced by each change and never modified, so an earlier one can come back.
        self._games = {}
        self._past = []
        self._ahead = []

    def __len__(self):
        return len(self._games)

    def __getitem__(self, at):
        check_known(self._games, at)
        return self._games[at]

    def __iter__(self):
        raise TypeError("a bench is not iterated over")

    def __contains__(self, x):
        return isinstance(x, str) and x in self._games

    def names(self):
        """The ascending list of the names."""
        return sorted(self._games)

    def _change(self, games):
        """Go on with other games, so that this can be taken back."""
        self._past.append(self._games)
        self._ahead = []
        self._games = games

    def put(self, name, game):
        """Put a game on the bench under a new name."""
        check_new(self._games, name)
        self._change({**self._games, name: game})

    def join(self, new, one, other):
        """Put the sum of two games on the bench under a new name."""
        first, second = self[one], self[other]
        check_new(self._games, new)
        self._change({**self._games, new: first + second})

    def scale(self, name, factor):
        """Multiply all payoffs of a game by an integer."""
        self._change({**self._games, name: self[name] * factor})

    def keep(self, name, moves):
        """Replace a game by the one in which each player has just some of the moves."""
        self._change({**self._games, name: kept(self[name], moves)})

    def strike(self, name):
        """Replace a game by the one with the moves that are left when dominated ones are struck."""
        self.keep(name, left(self[name]))

    def rename(self, name, new):
        """Give a game another name, or the one it has."""
        check_known(self._games, name)
        check_name(new)
        if new != name and new in self._games:
            raise NameTaken(new)
        self._change({new if each == name else each: game for each, game in self._games.items()})

    def drop(self, name):
        """Remove a game."""
        check_known(self._games, name)
        self._change({each: game for each, game in self._games.items() if each != name})

    @property
    def undos(self):
        """The number of the changes that can be taken back."""
        return len(self._past)

    @property
    def redos(self):
        """The number of the changes that can be done again."""
        return len(self._ahead)

    def undo(self):
        """Take back the last change that was not taken back."""
        if not self._past:
            raise NothingToUndo()
        self._ahead.append(self._games)
        self._games = self._past.pop()

    def redo(self):
        """Do again the change that was taken back last."""
        if not self._ahead:
            raise NothingToRedo()
        self._past.append(self._games)
        self._games = self._ahead.pop()

    def possible(self, name):
        """The ascending list of the possible cells of a game."""
        return possible_cells(self[name])

    def same(self, one, other):
        """Whether two games have the same shape and the same hints are heeded in both."""
        return is_alike(self[one], self[other])

    def groups(self):
        """The names, parted into groups of games that are the same in this sense."""
        names = self.names()
        found = grouped([self[name] for name in names])
        return [[names[index] for index in group] for group in found]

    def trial(self):
        """An object for a with block at whose end the bench is as it was at the beginning."""
        return Trial(self)

    def tried(self, names, deed):
        """What a function of the bench returns in a trial in which just some games are left."""
        for name in names:
            check_known(self._games, name)
        with self.trial():
            dropped = [name for name in self.names() if name not in names]
            for name in dropped:
                self.drop(name)
            return deed(self)


def bench_of(named):
    """A bench of games, given as tuples of a name and a game, without changes to take back."""
    found = Bench()
    for name, game in named:
        found.put(name, game)
    found._past = []
    return found
