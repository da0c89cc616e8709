"""The polygon of the mean payoffs of two players over all heeded hints, and fences against other points."""

from everyhint.books import balance_rows, balances, book_of, is_book
from everyhint.errors import BadPoint
from everyhint.goals import best_hint, payoff_goal
from everyhint.hints import Hint, means
from everyhint.opposed import check_two
from everyhint.programs import greatest
from everyhint.ratios import compare, is_ratio, lowest, minus, times
from everyhint.shapes import is_whole


def payoff_corners(game):
    """The list of the corners of the polygon, which is on the left of each step to the next one."""
    return [point for point, _ in corners(game)]


def corner_hints(game):
    """A list of a heeded hint for each corner, in the same order."""
    return [hint for _, hint in corners(game)]


def corners(game):
    """The list of the corners, each as a tuple of its point and a heeded hint with it."""
    check_two(game)
    first, last = furthest(game, [-1, 0]), furthest(game, [1, 0])
    if first[0][0] == last[0][0]:
        first, last = furthest(game, [0, -1]), furthest(game, [0, 1])
    if first[0] == last[0]:
        return [first]
    rim = [first] + right_of(game, first, last) + [last] + right_of(game, last, first)
    return from_least(without_straight(rim))


def furthest(game, shares):
    """A point of the polygon with the greatest sum of shares times coordinates, with its hint."""
    hint = best_hint(game, payoff_goal(game, shares))
    return (tuple(means(game, hint)), hint)


def right_of(game, one, other):
    """Points with hints on the rim between two of them, on the right of the step between these."""
    found = furthest(game, outward(one[0], other[0]))
    if turn(one[0], other[0], found[0]) >= 0:
        return []
    return right_of(game, one, found) + [found] + right_of(game, found, other)


def outward(one, other):
    """Two integers that point to the right of the step from one point to another one."""
    across, up = minus(other[0], one[0]), minus(other[1], one[1])
    return lowest([up[0] * across[1], -across[0] * up[1]])


def turn(one, other, third):
    """1 if three points turn to the left, -1 if they turn to the right, 0 if they are on one line."""
    ahead = times(minus(other[0], one[0]), minus(third[1], one[1]))
    aside = times(minus(other[1], one[1]), minus(third[0], one[0]))
    return compare(ahead, aside)


def without_straight(rim):
    """The points with hints all around, without those that are between their neighbours."""
    if len(rim) < 3:
        return rim
    around = [rim[-1]] + rim + [rim[0]]
    return [here for before, here, behind in zip(around, rim, around[2:])
            if turn(before[0], here[0], behind[0]) != 0]


def from_least(rim):
    """The points with hints all around, from the one with the least coordinates on."""
    start = 0
    for index in range(len(rim)):
        if is_before(rim[index][0], rim[start][0]):
            start = index
    return rim[start:] + rim[:start]


def is_before(one, other):
    """Whether a point has the lesser first coordinate, or the same one and the lesser second one."""
    side = compare(one[0], other[0])
    return side < 0 or (side == 0 and compare(one[1], other[1]) < 0)


def hint_at(game, point):
    """A heeded hint whose point is this one, or None if there is none."""
    answer = answer_at(game, point)
    return Hint(game.shape, answer[1]) if answer[0] == "best" else None


def fence(game, point):
    """Two integers and a book that show that no heeded hint has a point, or None if one has it."""
    answer = answer_at(game, point)
    if answer[0] == "best":
        return None
    *amounts, more, less, higher, lower = answer[1]
    # The rows were multiplied by the bottoms of the coordinates.
    return ((more - less) * point[0][1], (higher - lower) * point[1][1], book_of(game, amounts))


def answer_at(game, point):
    """What greatest says of the heeded hints with a point: some mix, or amounts against all of them."""
    check_two(game)
    if not is_point(point):
        raise BadPoint()
    rows = balance_rows(game)
    for player in range(2):
        row = distances(game, player, point)
        rows.extend([row, [-each for each in row]])
    return greatest(rows, [0] * len(game))


def is_point(value):
    """Whether a value is a tuple of two ratios."""
    return isinstance(value, tuple) and len(value) == 2 and all([is_ratio(each) for each in value])


def distances(game, player, point):
    """The payoffs of a player minus a coordinate, in all cells, times the bottom of the coordinate."""
    top, bottom = point[player]
    return [game[cell][player] * bottom - top for cell in game]


def is_fence(game, point, told):
    """Whether a value is a tuple of two integers and a book that is a fence against a point."""
    check_two(game)
    if not is_point(point):
        raise BadPoint()
    if not isinstance(told, tuple) or len(told) != 3:
        return False
    one, other, book = told
    if not is_whole(one) or not is_whole(other) or not is_book(game, book):
        return False
    # All of it is multiplied by the bottoms of both coordinates.
    first, second = point[0][1], point[1][1]
    across = [one * second * each for each in distances(game, 0, point)]
    up = [other * first * each for each in distances(game, 1, point)]
    rest = [first * second * each for each in balances(game, book)]
    return all([sum(column) < 0 for column in zip(across, up, rest)])
