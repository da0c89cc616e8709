"""Sums of the tests' own, by the definitions of the document alone, and games to try them on."""

import itertools
import random
from fractions import Fraction

from everyhint.games import Game, two

BIG_SHAPES = [(4, 4), (2, 2, 4), (4, 2, 2), (2, 4, 2), (4, 4, 1), (1, 4, 4)]
SHAPES = [(1,), (2,), (4,), (1, 1), (1, 3), (2, 2), (3, 2), (2, 4), (3, 3), (1, 1, 1), (2, 2, 2), (3, 1, 2),
          (2, 3, 2)] + BIG_SHAPES


def order(shape):
    return list(itertools.product(*[range(many) for many in shape]))


def pair(fraction):
    return (fraction.numerator, fraction.denominator)


def bets_of(shape):
    return [(player, told, other) for player, many in enumerate(shape)
            for told in range(many) for other in range(many) if told != other]


def changed(cell, player, move):
    return tuple(move if each == player else old for each, old in enumerate(cell))


def balance_of(game, book, cell):
    """The balance of a book in a cell, point [6]."""
    total = 0
    for (player, told, other), amount in book.items():
        if cell[player] == told:
            total += amount * (game[cell][player] - game[changed(cell, player, other)][player])
    return total


def barred_cells(game, book):
    return [cell for cell in order(game.shape) if balance_of(game, book, cell) < 0]


def closed(game, book):
    return all(balance_of(game, book, cell) <= 0 for cell in order(game.shape))


def chances(hint):
    """The chances of all cells, from the weights alone."""
    weights = hint.weights()
    return {cell: Fraction(weight, sum(weights)) for cell, weight in zip(order(hint.shape), weights)}


def gain_of(game, hint, player, told, other):
    """The gain by a move instead of a told one, point [5]."""
    total = Fraction(0)
    for cell, chance in chances(hint).items():
        if cell[player] == told:
            total += chance * (game[changed(cell, player, other)][player] - game[cell][player])
    return total


def heeded(game, hint):
    return all(gain_of(game, hint, *bet) <= 0 for bet in bets_of(game.shape))


def mean_of(hint, numbers):
    return sum((chance * number for chance, number in zip(chances(hint).values(), numbers)), Fraction(0))


def is_book_of(game, book):
    """Whether a value is a dict from bets of a game, tuples of integers, to integers of at least 1."""
    return type(book) is dict and all(
        type(bet) is tuple and [type(each) for each in bet] == [int] * 3 and bet in bets_of(game.shape)
        and type(amount) is int and amount >= 1 for bet, amount in book.items())


def drawn(seed, shape, most):
    """A game with payoffs drawn from -most to most."""
    chooser = random.Random(f"{seed} {shape} {most}")
    return Game(shape, [[chooser.randint(-most, most) for _ in shape] for _ in order(shape)])


def opposite(seed, shape, most):
    """A game of two players with opposite payoffs."""
    chooser = random.Random(f"{seed} {shape} {most}")
    payoffs = [chooser.randint(-most, most) for _ in order(shape)]
    return Game(shape, [[payoff, -payoff] for payoff in payoffs])


def worse_moves(shape):
    """A game in which each lower move of a player is worse than the higher ones everywhere."""
    return Game(shape, [[10 * cell[player] - sum(cell) for player in range(len(shape))] for cell in order(shape)])


def equal_payoffs(shape, payoff):
    return Game(shape, [[payoff] * len(shape) for _ in order(shape)])


DARE = two([[(6, 6), (2, 7)], [(7, 2), (0, 0)]])
DILEMMA = two([[(3, 3), (0, 5)], [(5, 0), (1, 1)]])
SMALL_GAMES = [DARE, DILEMMA] + [drawn(seed, shape, most) for seed in range(2) for shape in SHAPES for most in [1, 4]]
EDGE_GAMES = [equal_payoffs(shape, payoff) for shape in SHAPES for payoff in [-1000, 0, 1000]]
EDGE_GAMES += [worse_moves(shape) for shape in SHAPES]
EDGE_GAMES += [opposite(7, shape, most) for shape in [(1, 1), (2, 2), (3, 4), (4, 4)] for most in [1, 1000]]
LARGE_GAMES = [drawn(3, shape, 1000) for shape in BIG_SHAPES]
# Only payoffs at both ends of the limits.
LARGE_GAMES += [Game(shape, [[1000 if payoff > 0 else -1000 for payoff in row] for row in drawn(5, shape, 9).payoffs()])
                for shape in BIG_SHAPES]
GAMES = SMALL_GAMES + EDGE_GAMES + LARGE_GAMES
