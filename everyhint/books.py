"""Books of bets: their balances, and how they settle what is the greatest mean of a goal."""

from everyhint.errors import BadBook
from everyhint.games import balance_row, bet_balance, bets, is_bet
from everyhint.programs import greatest
from everyhint.shapes import is_positive


def check_book(game, book):
    """Raise BadBook unless a value is a book for a game."""
    if not is_book(game, book):
        raise BadBook()


def is_book(game, value):
    """Whether a value is a book for a game."""
    if not isinstance(value, dict):
        return False
    return all([is_bet(game, bet) and is_positive(amount) for bet, amount in value.items()])


def book_balance(game, book, cell):
    """The balance of a book in a cell."""
    return sum([amount * bet_balance(game, bet, cell) for bet, amount in book.items()])


def balances(game, book):
    """The list of the balances of a book in all cells, in ascending order."""
    return [book_balance(game, book, cell) for cell in game]


def balance_rows(game):
    """The lists of the balances of all bets of a game; a hint is heeded if none has a mean below 0."""
    return [balance_row(game, bet) for bet in bets(game)]


def settled(game, goal):
    """The weights of a heeded hint with the greatest mean of a goal, this mean, a scale and amounts.

    In each cell the integer of the goal times the scale, plus the balance of the book with these
    amounts of all bets, is at most the scale times the greatest mean.
    """
    # There is always such an answer, because some hint is heeded in each game.
    _, weights, value, scale, amounts = greatest(balance_rows(game), goal)
    return weights, value, scale, amounts


def book_of(game, amounts):
    """The book that has these amounts of all bets of a game, in ascending order; none of 0."""
    return {bet: amount for bet, amount in zip(bets(game), amounts) if amount > 0}
