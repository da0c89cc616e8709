"""What games and hints have in common: the checks of shapes, cells, moves and lists."""

from everyhint.errors import NoCell, NoMove, NoPlayer

MOST_PLAYERS = 3
MOST_MOVES = 4
MOST_CELLS = 16


def is_whole(value):
    """Whether a value is an integer; True and False are not."""
    return isinstance(value, int) and not isinstance(value, bool)


def is_positive(value):
    """Whether a value is an integer of at least 1."""
    return is_whole(value) and value >= 1


def is_list(value):
    """Whether a value is a list or a tuple, which does as well as one."""
    return isinstance(value, (list, tuple))


def is_row(value, many):
    """Whether a value is a list of so many integers."""
    return is_list(value) and len(value) == many and all([is_whole(each) for each in value])


def is_weights(value, many):
    """Whether a value is a list of so many integers of at least 0 that are not all 0."""
    if not is_row(value, many):
        return False
    return all([each >= 0 for each in value]) and any([each > 0 for each in value])


def is_shape(value):
    """Whether a value is the shape of a game or a hint."""
    if not is_list(value) or not 1 <= len(value) <= MOST_PLAYERS:
        return False
    if not all([is_whole(many) and 1 <= many <= MOST_MOVES for many in value]):
        return False
    return count_cells(value) <= MOST_CELLS


def count_cells(shape):
    """The number of the cells of a shape."""
    found = 1
    for many in shape:
        found = found * many
    return found


def combinations_below(counts):
    """The ascending list of the tuples with a number from 0 on below each of some counts."""
    found = [()]
    for many in counts:
        found = [start + (number,) for start in found for number in range(many)]
    return found


def is_player(shape, value):
    """Whether a value is the number of a player of a shape."""
    return is_whole(value) and 0 <= value < len(shape)


def is_move(shape, player, value):
    """Whether a value is the number of a move of a player."""
    return is_whole(value) and 0 <= value < shape[player]


def is_cell(shape, value):
    """Whether a value is a cell of a shape."""
    if not isinstance(value, tuple) or len(value) != len(shape):
        return False
    return all([is_move(shape, player, move) for player, move in enumerate(value)])


def check_player(shape, player):
    """Raise NoPlayer unless a value is the number of a player of a shape."""
    if not is_player(shape, player):
        raise NoPlayer(player)


def check_move(shape, player, move):
    """Raise NoMove unless a value is the number of a move of a player."""
    if not is_move(shape, player, move):
        raise NoMove(move)


def check_cell(shape, cell):
    """Raise NoCell unless a value is a cell of a shape."""
    if not is_cell(shape, cell):
        raise NoCell(cell)


def place(shape, cell):
    """The index of a cell in the ascending list of the cells of a shape."""
    found = 0
    for many, move in zip(shape, cell):
        found = found * many + move
    return found


def swapped(cell, player, move):
    """The cell in which the move of a player is replaced by another one."""
    return cell[:player] + (move,) + cell[player + 1:]
