"""Moves that are struck because a mix is above them, and beliefs under which the other ones are best."""

from everyhint.errors import BadMoves, BadShape, Mismatch
from everyhint.games import check_choices, is_lists, kept, original
from everyhint.hints import Hint, weighed
from everyhint.programs import greatest, is_attained, numbers_of, shows_none
from everyhint.shapes import check_move, check_player, combinations_below, count_cells, is_list
from everyhint.shapes import is_move, is_player, is_shape, is_weights, place

ZERO = (0, 1)


def others(shape, player):
    """The ascending list of the combinations of the moves of the other players."""
    if not is_shape(shape):
        raise BadShape()
    check_player(shape, player)
    return combinations_below([many for each, many in enumerate(shape) if each != player])


def advantages(game, player, move):
    """For each move of a player a list of what another move earns more, in each combination."""
    check_player(game.shape, player)
    check_move(game.shape, player, move)
    rows = [payoff_row(game, player, each) for each in range(game.shape[player])]
    return [[mine - theirs for mine, theirs in zip(rows[move], row)] for row in rows]


def payoff_row(game, player, move):
    """The list of the payoffs of a player with a move, in each combination of the others."""
    found = [combo[:player] + (move,) + combo[player:] for combo in others(game.shape, player)]
    return [game[cell][player] for cell in found]


def no_goal(rows):
    """A goal for rows of which nothing matters but which mixes are allowed."""
    return [0] * len(rows[0])


def belief_for(game, player, move):
    """A belief under which a move is best, or None if there is none."""
    rows = advantages(game, player, move)
    answer = greatest(rows, no_goal(rows))
    return answer[1] if answer[0] == "best" else None


def mixture_above(game, player, move):
    """A mix that is above a move, or None if there is none."""
    rows = advantages(game, player, move)
    answer = greatest(rows, no_goal(rows))
    return answer[1] if answer[0] == "none" else None


def is_belief(game, player, move, belief):
    """Whether a value is a belief under which a move is best."""
    rows = advantages(game, player, move)
    return is_attained(rows, no_goal(rows), belief, ZERO)


def is_above(game, player, move, mix):
    """Whether a value is a mix that is above a move."""
    rows = advantages(game, player, move)
    return shows_none(rows, no_goal(rows), mix)


def strikes(game):
    """A list of moves that are struck, each with its player and a mix, until no further one can be."""
    found = []
    moves = all_moves(game)
    step = next_strike(game, moves)
    while step is not None:
        found.append(step)
        moves = moves_without(moves, step)
        step = next_strike(game, moves)
    return found


def next_strike(game, moves):
    """The first move that can be struck where some moves are left, with player and mix, or None."""
    rest = kept(game, moves)
    for player, chosen in enumerate(moves):
        for index, move in enumerate(chosen):
            mix = mixture_above(rest, player, index)
            if mix is not None:
                return (player, move, numbers_of(chosen, mix, 0, game.shape[player]))
    return None


def all_moves(game):
    """The list of the lists of all moves of each player."""
    return [list(range(many)) for many in game.shape]


def moves_without(moves, step):
    """The lists of the moves that are left when one more is struck."""
    found = [list(chosen) for chosen in moves]
    found[step[0]].remove(step[1])
    return found


def left(game):
    """The ascending lists of the moves that are left when no further one can be struck."""
    return left_after(game, strikes(game))


def are_strikes(game, steps):
    """Whether a value is a list of moves, each with its player and a mix, that can be struck in its order."""
    if not is_list(steps):
        return False
    moves = all_moves(game)
    for step in steps:
        if not is_strike(game, moves, step):
            return False
        moves = moves_without(moves, step)
    return True


def left_after(game, steps):
    """The ascending lists of the moves that are left behind a list of strikes."""
    moves = all_moves(game)
    for step in steps:
        if not is_strike(game, moves, step):
            raise BadMoves(step[0])
        moves = moves_without(moves, step)
    return moves


def is_strike(game, moves, step):
    """Whether a value is a move that can be struck where some moves are left, with player and mix."""
    if not isinstance(step, tuple) or len(step) != 3 or not is_player(game.shape, step[0]):
        return False
    player, move, mix = step
    if not is_move(game.shape, player, move) or move not in moves[player]:
        return False
    if not is_weights(mix, game.shape[player]):
        return False
    chosen = moves[player]
    shares = [mix[each] for each in chosen]
    # A move that is struck already has no place in a mix.
    return sum(shares) == sum(mix) and is_above(kept(game, moves), player, chosen.index(move), shares)


def widened(hint, moves, shape):
    """The hint with a shape that gives each cell of another hint to the cell that it stands for."""
    if not is_shape(shape):
        raise BadShape()
    if len(shape) != len(hint.shape) or not is_lists(moves, len(shape)):
        raise Mismatch()
    if [len(chosen) for chosen in moves] != list(hint.shape):
        raise Mismatch()
    check_choices(shape, moves)
    weights = [0] * count_cells(shape)
    for cell, weight in weighed(hint):
        weights[place(shape, original(moves, cell))] = weight
    return Hint(shape, weights)
