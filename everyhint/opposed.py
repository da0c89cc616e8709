"""Opposed games of two players, in which what one player gets the other one lacks: their worth."""

from everyhint.errors import BadWeights, NotOpposed, NotTwo
from everyhint.goals import greatest_mean, payoff_goal
from everyhint.programs import greatest, is_attained
from everyhint.shapes import check_player, is_weights

ZERO = (0, 1)


def check_two(game):
    """Raise NotTwo unless a game has two players."""
    if game.players != 2:
        raise NotTwo(game.players)


def check_opposed(game):
    """Raise NotTwo or NotOpposed unless a game is opposed."""
    check_two(game)
    total = sum(game[(0, 0)])
    for cell in game:
        if sum(game[cell]) != total:
            raise NotOpposed(cell)


def worth(game):
    """The greatest mean payoff that player 0 can be sure of by a mix."""
    check_opposed(game)
    # The mean payoff of player 0 is the worth in every heeded hint, so the greatest one is, too.
    return greatest_mean(game, payoff_goal(game, [1, 0]))


def safe_rows(game, player):
    """The lists of which a mix of a player leaves no mean below 0 exactly if it is safe."""
    top, bottom = worth(game)
    rows, columns = game.shape
    table = [[game[(row, column)][0] * bottom - top for column in range(columns)] for row in range(rows)]
    if player == 0:
        return [[table[row][column] for row in range(rows)] for column in range(columns)]
    return [[-excess for excess in line] for line in table]


def safe_mixes(game):
    """A tuple of a safe mix for each player, in lowest terms."""
    return (safe_mix(game, 0), safe_mix(game, 1))


def safe_mix(game, player):
    """A safe mix of a player, in lowest terms."""
    _, mix, _, _, _ = greatest(safe_rows(game, player), [0] * game.shape[player])
    return mix


def is_safe(game, player, mix):
    """Whether a mix of a player is safe."""
    check_opposed(game)
    check_player(game.shape, player)
    if not is_weights(mix, game.shape[player]):
        raise BadWeights()
    return is_attained(safe_rows(game, player), [0] * len(mix), mix, ZERO)


def moves_in_use(game, player):
    """The ascending list of the moves of a player that some safe mix has."""
    check_opposed(game)
    check_player(game.shape, player)
    rows = safe_rows(game, player)
    return [move for move in range(game.shape[player]) if greatest_share(rows, move)[0] > 0]


def greatest_share(rows, move):
    """The greatest chance of a move in a mix that leaves the mean of no row below 0."""
    _, _, value, _, _ = greatest(rows, [1 if index == move else 0 for index in range(len(rows[0]))])
    return value
