"""Games with fewer moves, whose heeded hints can be lifted to the games that they come from."""

from math import lcm

from everyhint.books import balances, book_of, check_book
from everyhint.errors import Mismatch, NotClosed
from everyhint.games import Game, added, bets, cells
from everyhint.hints import blended, means, product
from everyhint.possible import book_with
from everyhint.programs import greatest, numbers_of
from everyhint.ratios import lowest


def groups(game, book):
    """For each player the list of the resting groups, tuples of their moves and their resting mix."""
    check_book(game, book)
    for cell, each in zip(list(game), balances(game, book)):
        if each > 0:
            raise NotClosed(cell)
    return [player_groups(book, player, many) for player, many in enumerate(game.shape)]


def player_groups(book, player, many):
    """The resting groups of a player with so many moves, in the order of their least moves."""
    ahead = [reached(book, player, many, move) for move in range(many)]
    found = []
    for move in range(many):
        # A move that leads nowhere rests by itself; in a group of several each one leads back.
        moves = ahead[move] or [move]
        if moves[0] == move and all([move in ahead[each] for each in ahead[move]]):
            found.append((moves, resting_mix(book, player, moves)))
    return found


def reached(book, player, many, move):
    """The ascending list of the moves that can be reached from a move by one or more steps."""
    found = []
    waiting = [move]
    while waiting:
        here = waiting.pop()
        ahead = [other for other in range(many) if (player, here, other) in book and other not in found]
        found.extend(ahead)
        waiting.extend(ahead)
    return sorted(found)


def resting_mix(book, player, moves):
    """The integers of the moves of a resting group with which as much leaves each move as comes in."""
    rows = [[outflow(book, player, move, each) for each in moves] for move in moves]
    # The sum of the rows is 0 everywhere, so if the mean of none is below 0, that of none is above.
    _, mix, _, _, _ = greatest(rows, [0] * len(moves))
    return mix


def outflow(book, player, move, each):
    """What leaves a move, less what comes in, if just one move of the player has the integer 1."""
    if each != move:
        return -book.get((player, each, move), 0)
    return sum([amount for bet, amount in book.items() if bet[:2] == (player, move)])


def reduced(game, book):
    """The game in which the moves of each player are the resting groups."""
    found = groups(game, book)
    rows = [means(game, hint) for hint in draws(game, found)]
    bottoms = [each[1] for row in rows for each in row]
    unit = 1
    for number in bottoms:
        unit = lcm(unit, number)
    return Game(fewer_shape(found), [[top * (unit // bottom) for top, bottom in row] for row in rows])


def fewer_shape(found):
    """The shape of the game in which the moves of each player are these groups."""
    return tuple([len(each) for each in found])


def draws(game, found):
    """For each cell of the game of these groups the hint by which moves are drawn in it."""
    return [product(whole_mixes(game, found, cell)) for cell in cells(fewer_shape(found))]


def whole_mixes(game, found, cell):
    """For each player the resting mix of the group in a cell, with 0 for all moves that it lacks."""
    mixes = []
    for player, index in enumerate(cell):
        moves, mix = found[player][index]
        mixes.append(numbers_of(moves, mix, 0, game.shape[player]))
    return mixes


def lifted(game, book, hint):
    """The hint that draws a cell of the reduced game by a hint, and then each player's move in it."""
    found = groups(game, book)
    if hint.shape != fewer_shape(found):
        raise Mismatch()
    return blended(draws(game, found), hint.weights())


def full_book(game):
    """A closed book with each bet that some closed book has."""
    amounts = [0] * len(bets(game))
    # Sums of closed books are closed.
    for index, bet in enumerate(bets(game)):
        if amounts[index] == 0:
            more = book_with(game, bet) or {}
            amounts = added(amounts, [more.get(each, 0) for each in bets(game)])
    return book_of(game, lowest(amounts))


def is_elementary(game):
    """Whether only the empty book is closed."""
    return not full_book(game)


def ladder(game):
    """The game and the ones that come by reducing it on and on, each with its full book."""
    found = []
    book = full_book(game)
    while book:
        found.append((game, book))
        game = reduced(game, book)
        book = full_book(game)
    return found + [(game, book)]


def climbed(game, hint):
    """The hint for a game that comes if one for the last game of its ladder is lifted step by step."""
    *steps, (last, _) = ladder(game)
    if hint.shape != last.shape:
        raise Mismatch()
    for above, book in steps[::-1]:
        hint = lifted(above, book, hint)
    return hint
