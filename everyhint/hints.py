"""Hints: the weights with which the cells of a shape are drawn, and what players are told."""

from math import lcm

from everyhint.errors import BadRows, BadRule, BadShape, BadShares, BadWeights, Mismatch
from everyhint.games import cells
from everyhint.ratios import lowest, ratio
from everyhint.shapes import check_cell, check_move, check_player, count_cells, is_list, is_move
from everyhint.shapes import is_row, is_shape, is_weights, place, swapped


class Hint:
    """A hint: a shape, and a weight for each cell, in lowest terms."""

    def __init__(self, shape, weights):
        if not is_shape(shape):
            raise BadShape()
        if not is_weights(weights, count_cells(shape)):
            raise BadWeights()
        self.shape = tuple(shape)
        self._weights = lowest(weights)
        self.unit = sum(self._weights)

    def __getitem__(self, at):
        check_cell(self.shape, at)
        return ratio(self._weights[place(self.shape, at)], self.unit)

    def __iter__(self):
        raise TypeError("a hint is not iterated over")

    def __eq__(self, other):
        return isinstance(other, Hint) and self.shape == other.shape and self._weights == other._weights

    def weights(self):
        """The list of the weights in lowest terms, in ascending order of the cells."""
        return list(self._weights)


def weighed(hint):
    """The list of the cells with their weights, tuples, in ascending order."""
    return list(zip(cells(hint.shape), hint.weights()))


def support(hint):
    """The ascending list of the cells with a chance above 0."""
    return [cell for cell, weight in weighed(hint) if weight > 0]


def told(hint, player):
    """The list of the chances with which a player is told each of their moves."""
    check_player(hint.shape, player)
    sums = [sum(told_weights(hint, player, move)) for move in range(hint.shape[player])]
    return [ratio(each, hint.unit) for each in sums]


def known(hint, player, move):
    """The hint that is left for a player who was told a move, or None if they never are."""
    check_player(hint.shape, player)
    check_move(hint.shape, player, move)
    weights = told_weights(hint, player, move)
    return Hint(hint.shape, weights) if sum(weights) > 0 else None


def told_weights(hint, player, move):
    """The weights of a hint, with 0 in the cells that have another move of a player."""
    return [weight if cell[player] == move else 0 for cell, weight in weighed(hint)]


def sure(shape, cell):
    """The hint with the chance 1 in one cell."""
    if not is_shape(shape):
        raise BadShape()
    check_cell(shape, cell)
    return Hint(shape, [1 if each == cell else 0 for each in cells(shape)])


def product(mixes):
    """The hint in which the moves are drawn independently, by a mix for each player."""
    if not is_list(mixes) or not all([is_list(mix) for mix in mixes]):
        raise BadShape()
    shape = [len(mix) for mix in mixes]
    if not is_shape(shape):
        raise BadShape()
    if not all([is_weights(mix, len(mix)) for mix in mixes]):
        raise BadWeights()
    return Hint(shape, [joint_weight(mixes, cell) for cell in cells(shape)])


def joint_weight(mixes, cell):
    """The product of the integers that some mixes have for the moves in a cell."""
    found = 1
    for mix, move in zip(mixes, cell):
        found = found * mix[move]
    return found


def blended(hints, shares):
    """The mean of some hints, each with a share."""
    if not is_weights(shares, len(hints)):
        raise BadShares()
    shape = hints[0].shape
    if not all([hint.shape == shape for hint in hints]):
        raise Mismatch()
    unit = 1
    for hint in hints:
        unit = lcm(unit, hint.unit)
    # With the same unit for all hints, their weights are in the proportion of the chances.
    factors = [share * (unit // hint.unit) for hint, share in zip(hints, shares)]
    rows = [[weight * factor for weight in hint.weights()] for hint, factor in zip(hints, factors)]
    return Hint(shape, [sum(column) for column in zip(*rows)])


def mean(hint, numbers):
    """The mean of a list with an integer for each cell."""
    if not is_row(numbers, count_cells(hint.shape)):
        raise BadRows()
    total = sum([weight * number for weight, number in zip(hint.weights(), numbers)])
    return ratio(total, hint.unit)


def means(game, hint):
    """The list of the mean payoffs of all players."""
    if game.shape != hint.shape:
        raise Mismatch()
    return [mean(hint, [game[cell][player] for cell in game]) for player in range(game.players)]


def followed(hint, player, plan):
    """The hint of the cells that are played if a player goes by a plan."""
    check_player(hint.shape, player)
    if not is_plan(hint, player, plan):
        raise BadRule(player)
    weights = [0] * count_cells(hint.shape)
    for cell, weight in weighed(hint):
        index = place(hint.shape, swapped(cell, player, plan[cell[player]]))
        weights[index] += weight
    return Hint(hint.shape, weights)


def is_plan(hint, player, plan):
    """Whether a value is a list with a move of a player for each of their moves."""
    if not is_list(plan) or len(plan) != hint.shape[player]:
        return False
    return all([is_move(hint.shape, player, move) for move in plan])
