"""Games: the payoffs of one to three players in all cells of a shape, and their bets."""

from everyhint.errors import BadBook, BadMoves, BadPayoffs, BadRows, BadShape, Mismatch
from everyhint.shapes import MOST_MOVES, check_cell, combinations_below, count_cells, is_cell, is_list
from everyhint.shapes import is_move, is_player, is_row, is_shape, is_whole, place, swapped


def cells(shape):
    """The list of all cells of a shape in ascending order."""
    if not is_shape(shape):
        raise BadShape()
    return combinations_below(shape)


class Game:
    """A game: a shape, and a payoff for each player in each cell."""

    def __init__(self, shape, payoffs):
        if not is_shape(shape):
            raise BadShape()
        wrong = wrong_index(payoffs, count_cells(shape), len(shape))
        if wrong is not None:
            raise BadPayoffs(wrong)
        self.shape = tuple(shape)
        self.players = len(shape)
        self._cells = cells(shape)
        self._rows = [tuple(row) for row in payoffs]

    def __len__(self):
        return len(self._cells)

    def __getitem__(self, at):
        check_cell(self.shape, at)
        return self._rows[place(self.shape, at)]

    def __iter__(self):
        return iter(self._cells)

    def __contains__(self, x):
        return is_cell(self.shape, x)

    def __eq__(self, other):
        return isinstance(other, Game) and self.shape == other.shape and self._rows == other._rows

    def payoffs(self):
        """The list of the rows of payoffs, in ascending order of the cells."""
        return [list(row) for row in self._rows]

    def __add__(self, other):
        if self.shape != other.shape:
            raise Mismatch()
        return Game(self.shape, [added(row, more) for row, more in zip(self._rows, other._rows)])

    def __neg__(self):
        return Game(self.shape, [[-payoff for payoff in row] for row in self._rows])

    def __mul__(self, other):
        return Game(self.shape, [[payoff * other for payoff in row] for row in self._rows])


def added(row, other):
    """The list of the sums of the payoffs in two rows."""
    return [mine + theirs for mine, theirs in zip(row, other)]


def wrong_index(payoffs, many, players):
    """The first index at which a row is missing, is wrong or is one too many, or None."""
    rows = payoffs if is_list(payoffs) else []
    for index in range(many):
        if index >= len(rows) or not is_row(rows[index], players):
            return index
    if len(rows) > many:
        return many
    return None


def two(rows):
    """The game of two players with a tuple of their payoffs for each two moves."""
    if not is_table(rows) or not all([is_pair(item) for row in rows for item in row]):
        raise BadRows()
    return Game([len(rows), len(rows[0])], [list(item) for row in rows for item in row])


def opposed(rows):
    """The game of two players with the payoff of player 0, whose negative player 1 has."""
    if not is_table(rows) or not all([is_whole(item) for row in rows for item in row]):
        raise BadRows()
    return Game([len(rows), len(rows[0])], [[item, -item] for row in rows for item in row])


def is_table(rows):
    """Whether a value is a list of lists of the same length, as two and opposed take them."""
    if not is_list(rows) or not 1 <= len(rows) <= MOST_MOVES:
        return False
    if not all([is_list(row) and len(row) == len(rows[0]) for row in rows]):
        return False
    return 1 <= len(rows[0]) <= MOST_MOVES


def is_pair(item):
    """Whether a value is a tuple of two integers."""
    return isinstance(item, tuple) and is_row(item, 2)


def kept(game, moves):
    """The game in which each player has just some of the moves, in a given order."""
    if not is_lists(moves, game.players):
        raise Mismatch()
    check_choices(game.shape, moves)
    shape = [len(chosen) for chosen in moves]
    return Game(shape, [list(game[original(moves, cell)]) for cell in cells(shape)])


def is_lists(value, many):
    """Whether a value is a list of so many lists."""
    return is_list(value) and len(value) == many and all([is_list(each) for each in value])


def check_choices(shape, moves):
    """Raise BadMoves unless each player's list has one or more of their moves, none of them twice."""
    for player, chosen in enumerate(moves):
        if not is_choice(shape, player, chosen):
            raise BadMoves(player)


def is_choice(shape, player, chosen):
    """Whether a list has one or more moves of a player, none of them twice."""
    if not chosen or not all([is_move(shape, player, move) for move in chosen]):
        return False
    return len(set(chosen)) == len(chosen)


def original(moves, cell):
    """The cell of the moves that the moves in a cell of a kept game stand for."""
    return tuple([moves[player][move] for player, move in enumerate(cell)])


def bets(game):
    """The list of all bets of a game in ascending order."""
    found = []
    for player, many in enumerate(game.shape):
        pairs = [(told, other) for told in range(many) for other in range(many)]
        found.extend([(player, told, other) for told, other in pairs if told != other])
    return found


def is_bet(game, value):
    """Whether a value is a bet of a game."""
    if not isinstance(value, tuple) or len(value) != 3 or not is_player(game.shape, value[0]):
        return False
    player, told, other = value
    return is_move(game.shape, player, told) and is_move(game.shape, player, other) and told != other


def balance_row(game, bet):
    """The list of the balances, in all cells, of the book of just one bet with the amount 1."""
    if not is_bet(game, bet):
        raise BadBook()
    return [bet_balance(game, bet, cell) for cell in game]


def bet_balance(game, bet, cell):
    """The balance of a bet with the amount 1 in a cell."""
    player, told, other = bet
    if cell[player] != told:
        return 0
    return game[cell][player] - game[swapped(cell, player, other)][player]
