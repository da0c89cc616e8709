"""Games compared: whether every hint that is heeded in one game is heeded in another one."""

from everyhint.books import balances, book_of, is_book, settled
from everyhint.errors import Mismatch
from everyhint.games import balance_row, bets, is_bet
from everyhint.heeding import check_same
from everyhint.hints import Hint
from everyhint.shapes import is_positive


def implies(one, other):
    """Whether every hint that is heeded in one game is heeded in the other one."""
    return hint_between(one, other) is None


def hint_between(one, other):
    """A hint that is heeded in one game and not in the other one, or None if there is none."""
    check_same(one, other)
    for bet in bets(other):
        weights, value, _, _ = settled(one, gain_goal(other, bet))
        if value[0] > 0:
            return Hint(one.shape, weights)
    return None


def gain_goal(game, bet):
    """The goal whose mean is the gain by a bet."""
    return [-each for each in balance_row(game, bet)]


def multipliers(one, other):
    """For each bet of the other game a scale and a book for the one that imply it, or None."""
    check_same(one, other)
    found = {}
    for bet in bets(other):
        _, value, scale, amounts = settled(one, gain_goal(other, bet))
        if value[0] > 0:
            return None
        # The gain times the scale, plus the balance of the book, is above 0 in no cell.
        found[bet] = (scale, book_of(one, amounts))
    return found


def shows_implied(one, other, paper):
    """Whether a value is a dict as multipliers returns them."""
    check_same(one, other)
    if not isinstance(paper, dict) or len(paper) != len(bets(other)):
        return False
    # As many different keys as there are bets, if all are bets, are all of them.
    return all([is_bet(other, bet) and is_shown(one, other, bet, told) for bet, told in paper.items()])


def is_shown(one, other, bet, told):
    """Whether a scale and a book for one game show that a bet of the other one has no gain."""
    if not isinstance(told, tuple) or len(told) != 2:
        return False
    scale, book = told
    if not is_positive(scale) or not is_book(one, book):
        return False
    once = balance_row(other, bet)
    return all([scale * theirs >= mine for theirs, mine in zip(once, balances(one, book))])


def same_hints(one, other):
    """Whether the same hints are heeded in two games."""
    return implies(one, other) and implies(other, one)


def groups_same(games):
    """The groups of the indices of games, all of one shape, in which the same hints are heeded."""
    if not all([game.shape == games[0].shape for game in games]):
        raise Mismatch()
    return grouped(games)


def grouped(games):
    """The groups of the indices of games of the same shape in which the same hints are heeded."""
    found = []
    for index, game in enumerate(games):
        home = home_of(games, found, game)
        if home is None:
            found.append([index])
        else:
            found[home].append(index)
    return found


def home_of(games, found, game):
    """The place of the group to which a game belongs, or None if it is none of these groups."""
    for at, group in enumerate(found):
        if is_alike(games[group[0]], game):
            return at
    return None


def is_alike(one, other):
    """Whether two games have the same shape and the same hints are heeded in both."""
    return one.shape == other.shape and same_hints(one, other)
