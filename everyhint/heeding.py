"""Heeding: what players gain by not following a hint, and whether they heed it."""

from everyhint.errors import Mismatch
from everyhint.games import balance_row, bets
from everyhint.hints import followed, mean, means
from everyhint.ratios import compare, minus
from everyhint.shapes import check_move, check_player

ZERO = (0, 1)


def gain(game, hint, player, told, other):
    """The gain of a player who was told one move by playing another one."""
    check_same(game, hint)
    check_player(game.shape, player)
    check_move(game.shape, player, told)
    check_move(game.shape, player, other)
    if told == other:
        return ZERO
    return bet_gain(game, hint, (player, told, other))


def check_same(one, other):
    """Raise Mismatch unless two games, or a game and a hint or a log, have the same shape."""
    if one.shape != other.shape:
        raise Mismatch()


def bet_gain(game, hint, bet):
    """The gain of the player of a bet by the other move instead of the told one."""
    return minus(ZERO, mean(hint, balance_row(game, bet)))


def gains(game, hint):
    """The gains of all bets of a game, in a dict."""
    check_same(game, hint)
    return {bet: bet_gain(game, hint, bet) for bet in bets(game)}


def tempting(game, hint):
    """The ascending list of the bets whose gain is above 0."""
    check_same(game, hint)
    return [bet for bet in bets(game) if compare(bet_gain(game, hint, bet), ZERO) > 0]


def heeds(game, hint, player):
    """Whether a player heeds a hint."""
    check_same(game, hint)
    check_player(game.shape, player)
    return all([bet[0] != player for bet in tempting(game, hint)])


def is_heeded(game, hint):
    """Whether all players heed a hint."""
    return not tempting(game, hint)


def plan_gain(game, hint, player, plan):
    """What a player gains by going by a plan instead of following a hint."""
    check_same(game, hint)
    played = followed(hint, player, plan)
    return minus(means(game, played)[player], means(game, hint)[player])


def best_plan(game, hint, player):
    """The plan with the greatest gain, with moves that are changed only where this gains."""
    check_same(game, hint)
    check_player(game.shape, player)
    return [best_move(game, hint, player, told) for told in range(game.shape[player])]


def best_move(game, hint, player, told):
    """The told move if no other one has a gain above 0, and otherwise the first best one."""
    best = told
    most = ZERO
    for move in range(game.shape[player]):
        found = gain(game, hint, player, told, move)
        if compare(found, most) > 0:
            best = move
            most = found
    return best


def temptation(game, hint, player):
    """The greatest gain of a player by any plan."""
    return plan_gain(game, hint, player, best_plan(game, hint, player))
