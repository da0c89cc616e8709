"""Goals: the greatest mean of a number for each cell over all heeded hints."""

from everyhint.books import balance_rows, book_of, check_book, settled
from everyhint.errors import BadRows, Mismatch
from everyhint.games import bets
from everyhint.hints import Hint
from everyhint.possible import cell_goal
from everyhint.programs import is_answer
from everyhint.shapes import check_player, is_row


def greatest_mean(game, goal):
    """The greatest mean of a goal over all heeded hints."""
    check_goal(game, goal)
    _, value, _, _ = settled(game, goal)
    return value


def best_hint(game, goal):
    """A heeded hint with the greatest mean of a goal."""
    check_goal(game, goal)
    weights, _, _, _ = settled(game, goal)
    return Hint(game.shape, weights)


def book_for(game, goal):
    """A scale and a book that show that no heeded hint has a mean above the greatest one."""
    check_goal(game, goal)
    _, _, scale, amounts = settled(game, goal)
    return (scale, book_of(game, amounts))


def check_goal(game, goal):
    """Raise BadRows unless a value is a list of an integer for each cell."""
    if not is_row(goal, len(game)):
        raise BadRows()


def shows_greatest(game, goal, value, hint, scale, book):
    """Whether a hint, a scale and a book show that a value is the greatest mean of a goal."""
    check_goal(game, goal)
    check_book(game, book)
    if hint.shape != game.shape:
        return False
    amounts = [book.get(bet, 0) for bet in bets(game)]
    return is_answer(balance_rows(game), goal, ("best", hint.weights(), value, scale, amounts))


def payoff_goal(game, shares):
    """The goal with the sums, over the players, of the share times the payoff."""
    if not is_row(shares, game.players):
        raise Mismatch()
    return [sum([share * payoff for share, payoff in zip(shares, game[cell])]) for cell in game]


def payoff_range(game, player):
    """The least and the greatest mean payoff of a player over all heeded hints."""
    check_player(game.shape, player)
    return mean_range(game, [game[cell][player] for cell in game])


def chance_range(game, cell):
    """The least and the greatest chance of a cell over all heeded hints."""
    return mean_range(game, cell_goal(game, cell))


def mean_range(game, goal):
    """The least and the greatest mean of a goal over all heeded hints."""
    top, bottom = greatest_mean(game, [-number for number in goal])
    return ((-top, bottom), greatest_mean(game, goal))
