"""Logs of plays and regrets in them, and hints that players take as a whole."""

from everyhint.books import balance_rows
from everyhint.errors import BadShape, BadShares
from everyhint.games import balance_row
from everyhint.goals import check_goal
from everyhint.heeding import check_same
from everyhint.hints import Hint, mean
from everyhint.programs import greatest, is_bound, weighted
from everyhint.shapes import check_cell, check_move, check_player, count_cells, is_move, is_player
from everyhint.shapes import is_positive, is_shape, is_whole, place, swapped


class Log:
    """The plays of a game, in their order."""

    def __init__(self, shape):
        if not is_shape(shape):
            raise BadShape()
        self.shape = tuple(shape)
        self._plays = []

    def __len__(self):
        return len(self._plays)

    def plays(self):
        """The list of the plays in their order."""
        return list(self._plays)

    def play(self, cell):
        """Add a play."""
        check_cell(self.shape, cell)
        self._plays.append(cell)

    def hint(self):
        """The hint with the number of the plays of each cell as its weight, or None without a play."""
        return Hint(self.shape, counts(self)) if self._plays else None

    def behind(self, count):
        """Another log with the first plays of this one, so many of them."""
        if not is_whole(count) or not 0 <= count <= len(self._plays):
            raise BadShares()
        found = Log(self.shape)
        for cell in self._plays[:count]:
            found.play(cell)
        return found


def counts(log):
    """The list of the numbers of the plays of all cells, in ascending order of the cells."""
    found = [0] * count_cells(log.shape)
    for cell in log.plays():
        found[place(log.shape, cell)] += 1
    return found


def regret(log, game, player, told, other):
    """What a player would have gained by another move in all plays with a move."""
    check_same(log, game)
    check_player(game.shape, player)
    check_move(game.shape, player, told)
    check_move(game.shape, player, other)
    if told == other:
        return 0
    return -weighted(balance_row(game, (player, told, other)), counts(log))


def fixed_regret(log, game, player, move):
    """What a player would have gained by always playing one move."""
    check_same(log, game)
    check_player(game.shape, player)
    check_move(game.shape, player, move)
    return -weighted(fixed_row(game, player, move), counts(log))


def fixed_row(game, player, move):
    """The payoffs of a player in all cells, minus those in the cells that have a move instead of theirs."""
    return [game[cell][player] - game[swapped(cell, player, move)][player] for cell in game]


def no_regrets(log, game):
    """Whether no regret is above 0."""
    check_same(log, game)
    played = counts(log)
    return all([weighted(row, played) >= 0 for row in balance_rows(game)])


def takes(game, hint, player):
    """Whether a player gains nothing by always playing one move instead of following a hint."""
    check_same(game, hint)
    check_player(game.shape, player)
    # What the player gains is the mean of the row with the other sign.
    rows = [fixed_row(game, player, move) for move in range(game.shape[player])]
    return all([mean(hint, row)[0] >= 0 for row in rows])


def is_taken(game, hint):
    """Whether all players take a hint."""
    return all([takes(game, hint, player) for player in range(game.players)])


def greatest_taken(game, goal):
    """The greatest mean of a goal over all hints that are taken."""
    _, value, _, _ = settled_taken(game, goal)
    return value


def best_taken(game, goal):
    """A hint that is taken and has the greatest mean of a goal."""
    weights, _, _, _ = settled_taken(game, goal)
    return Hint(game.shape, weights)


def offers(game, goal):
    """A scale and amounts of moves that show that no hint that is taken has a greater mean."""
    _, _, scale, amounts = settled_taken(game, goal)
    return (scale, {each: amount for each, amount in zip(fixed_moves(game), amounts) if amount > 0})


def settled_taken(game, goal):
    """The weights of a hint that is taken and best for a goal, its mean, a scale and amounts."""
    check_goal(game, goal)
    # There is always such a hint, because every hint that is heeded is taken.
    _, weights, value, scale, amounts = greatest(fixed_rows(game), goal)
    return weights, value, scale, amounts


def fixed_moves(game):
    """The ascending list of the tuples of a player and a move."""
    return [(player, move) for player, many in enumerate(game.shape) for move in range(many)]


def fixed_rows(game):
    """The lists of which a hint leaves no mean below 0 exactly if it is taken."""
    return [fixed_row(game, player, move) for player, move in fixed_moves(game)]


def shows_offers(game, goal, value, told):
    """Whether a value is a scale and amounts that show that no taken hint has a mean above a ratio."""
    check_goal(game, goal)
    if not isinstance(told, tuple) or len(told) != 2 or not is_offer(game, told[1]):
        return False
    scale, amounts = told
    numbers = [amounts.get(each, 0) for each in fixed_moves(game)]
    return is_bound(fixed_rows(game), goal, value, scale, numbers)


def is_offer(game, value):
    """Whether a value is a dict from tuples of a player and a move to integers of at least 1."""
    if not isinstance(value, dict):
        return False
    return all([is_fixed(game, each) and is_positive(amount) for each, amount in value.items()])


def is_fixed(game, value):
    """Whether a value is a tuple of a player and a move of this player."""
    if not isinstance(value, tuple) or len(value) != 2 or not is_player(game.shape, value[0]):
        return False
    return is_move(game.shape, value[0], value[1])
