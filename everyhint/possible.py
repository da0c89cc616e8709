"""Possible cells, which some heeded hint has, and the closed books that bar the other ones."""

from everyhint.books import balances, book_balance, book_of, check_book, settled
from everyhint.games import added, balance_row, bets
from everyhint.hints import Hint, support
from everyhint.shapes import check_cell


def hint_for(game, cell):
    """A heeded hint with a chance above 0 of a cell, or None if there is none."""
    weights, value, _, _ = settled(game, cell_goal(game, cell))
    return Hint(game.shape, weights) if value[0] > 0 else None


def book_against(game, cell):
    """A closed book that bars a cell, or None if there is none."""
    _, value, _, amounts = settled(game, cell_goal(game, cell))
    return book_of(game, amounts) if value[0] == 0 else None


def cell_goal(game, cell):
    """The goal that is 1 in one cell and 0 in the other ones; its mean is the chance of the cell."""
    check_cell(game.shape, cell)
    return [1 if each == cell else 0 for each in game]


def possible_cells(game):
    """The ascending list of the cells that have a chance above 0 in some heeded hint."""
    return support(wide_hint(game))


def wide_hint(game):
    """A heeded hint in which just the possible cells have a chance above 0."""
    weights, _ = parted(game)
    return Hint(game.shape, weights)


def wide_book(game):
    """A closed book that bars just the cells that are not possible."""
    _, amounts = parted(game)
    return book_of(game, amounts)


def parted(game):
    """The weights of a heeded hint and the amounts of a closed book, with each cell in one of them."""
    weights = [0] * len(game)
    amounts = [0] * len(bets(game))
    # Sums of the weights of heeded hints are those of one, and sums of closed books are closed.
    for index, cell in enumerate(game):
        if weights[index] == 0 and book_balance(game, book_of(game, amounts), cell) == 0:
            more_weights, value, _, more_amounts = settled(game, cell_goal(game, cell))
            if value[0] > 0:
                weights = added(weights, more_weights)
            else:
                amounts = added(amounts, more_amounts)
    return weights, amounts


def balance(game, book, cell):
    """The balance of a book in a cell."""
    check_book(game, book)
    check_cell(game.shape, cell)
    return book_balance(game, book, cell)


def is_closed(game, book):
    """Whether the balance of a book is above 0 in no cell."""
    check_book(game, book)
    return all([each <= 0 for each in balances(game, book)])


def barred_by(game, book):
    """The ascending list of the cells in which the balance of a book is below 0."""
    check_book(game, book)
    return [cell for cell in game if book_balance(game, book, cell) < 0]


def strict_hint(game, bet):
    """A heeded hint in which the gain by a bet is below 0, or None if there is none."""
    # The mean of the balance of the bet is the gain with the other sign.
    weights, value, _, _ = settled(game, balance_row(game, bet))
    return Hint(game.shape, weights) if value[0] > 0 else None


def book_with(game, bet):
    """A closed book that has a bet, or None if there is none."""
    _, value, scale, amounts = settled(game, balance_row(game, bet))
    if value[0] > 0:
        return None
    # The balance of so many of the bet, plus that of the amounts, is above 0 in no cell.
    once = [scale if each == bet else 0 for each in bets(game)]
    return book_of(game, added(amounts, once))


def possible_moves(game):
    """For each player the ascending list of the moves that some heeded hint tells them."""
    found = possible_cells(game)
    return [sorted(set([cell[player] for cell in found])) for player in range(game.players)]
