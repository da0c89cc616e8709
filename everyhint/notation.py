"""Texts of games, hints, books and benches, and a report on what can be hinted in a game."""

from everyhint.bench import bench_of
from everyhint.errors import BadLine
from everyhint.games import Game
from everyhint.goals import payoff_range
from everyhint.hints import Hint
from everyhint.possible import possible_cells
from everyhint.ratios import decimal, is_digits, ratio_text
from everyhint.shapes import count_cells, is_shape

MOST_DIGITS = 30


def text_of(thing):
    """The text of a game, a hint or a bench."""
    if isinstance(thing, Game):
        return "\n".join([line_of(["game"], thing.shape)] + payoff_lines(thing))
    if isinstance(thing, Hint):
        return "\n".join([line_of(["hint"], thing.shape), line_of([], thing.weights())])
    lines = ["bench"]
    for name in thing.names():
        lines.append(line_of(["put", name], thing[name].shape))
        lines.extend(payoff_lines(thing[name]))
    return "\n".join(lines)


def book_text(book):
    """The text of a book."""
    return "\n".join(["book"] + [line_of([], [*bet, book[bet]]) for bet in sorted(book)])


def line_of(words, numbers):
    """The line of some words and, behind them, some integers."""
    return " ".join(words + [decimal(number) for number in numbers])


def payoff_lines(game):
    """The lines of the payoffs in all cells of a game."""
    return [line_of([], row) for row in game.payoffs()]


def read_game(text):
    """The game that a text describes."""
    lines = words_of(text)
    shape = shape_at(lines, 0, ["game"])
    rows = rows_at(lines, 1, count_cells(shape), len(shape))
    check_end(lines, 1 + len(rows))
    return Game(shape, rows)


def read_hint(text):
    """The hint that a text describes."""
    lines = words_of(text)
    shape = shape_at(lines, 0, ["hint"])
    weights = numbers_at(lines, 1, count_cells(shape))
    check_end(lines, 2)
    return Hint(shape, weights)


def read_book(text):
    """The book that a text describes."""
    lines = words_of(text)
    check_words(lines, 0, ["book"])
    found = {}
    for index in range(1, len(lines)):
        *bet, amount = numbers_at(lines, index, 4)
        if tuple(bet) in found or amount < 1:
            raise BadLine(index + 1)
        found[tuple(bet)] = amount
    return found


def read_bench(text):
    """The bench that a text describes, without changes that can be taken back."""
    lines = words_of(text)
    check_words(lines, 0, ["bench"])
    found = []
    index = 1
    while index < len(lines):
        shape = shape_at(lines, index, ["put"] + lines[index][1:2])
        rows = rows_at(lines, index + 1, count_cells(shape), len(shape))
        found.append((lines[index][1], Game(shape, rows)))
        index = index + 1 + len(rows)
    return bench_of(found)


def words_of(text):
    """The list of the lists of the words of the lines of a text."""
    return [line.split(" ") for line in text.split("\n")]


def check_words(lines, index, words):
    """Raise BadLine unless a line consists of just these words."""
    if lines[index] != words:
        raise BadLine(index + 1)


def check_end(lines, many):
    """Raise BadLine if there are more lines than so many."""
    if len(lines) > many:
        raise BadLine(many + 1)


def shape_at(lines, index, start):
    """The shape in a line that has some words and, behind them, the integers of a shape."""
    words = lines[index]
    shape = [whole(word) for word in words[len(start):]]
    # An empty word would do as a name.
    if words[:len(start)] != start or "" in words or not is_shape(shape):
        raise BadLine(index + 1)
    return shape


def rows_at(lines, first, many, width):
    """The integers of so many lines, from the first one on, with so many integers each."""
    return [numbers_at(lines, first + index, width) for index in range(many)]


def numbers_at(lines, index, many):
    """The integers of a line that consists of so many of them."""
    if index >= len(lines):
        raise BadLine(index + 1)
    found = [whole(word) for word in lines[index]]
    if len(found) != many or None in found:
        raise BadLine(index + 1)
    return found


def whole(word):
    """The integer that a word is in decimal notation, or None."""
    digits = word.removeprefix("-")
    if not is_digits(digits) or len(digits) > MOST_DIGITS:
        return None
    # Each integer has just one notation, so superfluous zeros and -0 show here.
    return int(word) if decimal(int(word)) == word else None


def report(game):
    """A text that tells which cells are possible, and the ranges of the mean payoffs."""
    found = possible_cells(game)
    lines = [line_of([], cell) + (" possible" if cell in found else " barred") for cell in game]
    for player in range(game.players):
        ends = [ratio_text(end) for end in payoff_range(game, player)]
        lines.append(" ".join(["player", decimal(player)] + ends))
    return "\n".join(lines)
