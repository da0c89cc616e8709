import random
import unittest
from fractions import Fraction
from math import gcd

from checking import BIG, ODD_VALUES, Case
from everyhint.errors import BadWeights, NoPlayer, NotOpposed, NotTwo
from everyhint.games import Game, opposed, two
from everyhint.goals import best_hint, payoff_range
from everyhint.hints import product, told
from everyhint.opposed import is_safe, moves_in_use, safe_mixes, worth
from everyhint.possible import possible_moves, wide_hint
from sums import DARE, drawn, equal_payoffs, heeded, opposite, order, pair

EXAMPLE = opposed([[2, -1, 3], [-1, 1, 4]])
TABLES = [(1, 1), (1, 4), (4, 1), (2, 2), (3, 2), (2, 4), (3, 3), (4, 4)]
STONE = opposed([[0, -1, 1], [1, 0, -1], [-1, 1, 0]])


def with_sum(game, total):
    """The game in which player 1 has as much more as makes this sum of the payoffs."""
    return Game(game.shape, [[payoff, total - payoff] for payoff, _ in game.payoffs()])


GAMES = [opposite(seed, shape, most) for seed in range(4) for shape in TABLES for most in [1, 3, 1000]]
GAMES += [with_sum(game, total) for game, total in zip(GAMES[::3], [1, -7, 1000, -1000] * 9)]
GAMES += [equal_payoffs(shape, payoff) for shape in TABLES for payoff in [0, 1000, -1000]] + [EXAMPLE, STONE]


def sure_of(game, player, mix):
    """What a mix of a player does at worst: the least mean of player 0 by it, or the greatest one."""
    rows, columns = game.shape
    if player == 0:
        found = [Fraction(sum(mix[row] * game[(row, column)][0] for row in range(rows)), sum(mix))
                 for column in range(columns)]
        return min(found)
    found = [Fraction(sum(mix[column] * game[(row, column)][0] for column in range(columns)), sum(mix))
             for row in range(rows)]
    return max(found)


class WorthTest(Case):
    def test_examples_of_the_interface(self):
        game = opposed([[2, -1, 3], [-1, 1, 4]])
        self.same_value([worth(game), safe_mixes(game), is_safe(game, 0, [4, 6]), is_safe(game, 0, [1, 1]),
                         moves_in_use(game, 1)], [(1, 5), ([2, 3], [2, 3, 0]), True, False, [0, 1]])
        self.fails(NotOpposed, {"cell": (1, 1)}, worth, two([[(1, 1), (0, 2)], [(2, 0), (1, 0)]]))

    def test_the_worth_by_a_mix_of_either_player(self):
        for game in GAMES:
            value, mixes = worth(game), safe_mixes(game)
            self.same_value(value, pair(Fraction(*value)))
            self.assertEqual([type(mixes), len(mixes)], [tuple, 2])
            for player, mix in enumerate(mixes):
                self.assertEqual([type(mix)] + [type(each) for each in mix], [list] + [int] * game.shape[player])
                self.assertGreaterEqual(min(mix), 0)
                self.assertEqual(gcd(*mix), 1)
                # Player 0 is sure of as much as player 1 can keep player 0 at, so neither can do better.
                self.assertEqual(sure_of(game, player, mix), Fraction(*value))
                self.assertIs(is_safe(game, player, mix), True)

    def test_saddles_and_known_worths(self):
        self.same_value([worth(opposed([[5]])), safe_mixes(opposed([[-1000]])), worth(opposed([[3, 1, 2]])),
                         worth(opposed([[3], [1], [2]]))], [(5, 1), ([1], [1]), (1, 1), (3, 1)])
        self.same_value([worth(STONE), safe_mixes(STONE)], [(0, 1), ([1, 1, 1], [1, 1, 1])])
        self.same_value([worth(opposed([[1000, -1000], [-1000, 1000]])), worth(opposed([[1000, -1000], [-999, 1000]]))],
                        [(0, 1), (1000, 3999)])
        self.same_value([safe_mixes(opposed([[1, 2], [3, 4]])), worth(opposed([[1, 2], [3, 4]]))],
                        [([0, 1], [1, 0]), (3, 1)])

    def test_another_sum(self):
        for game in GAMES[:40]:
            moved = with_sum(game, 17)
            self.same_value([worth(moved), safe_mixes(moved)], [worth(game), safe_mixes(game)])
            for player, many in enumerate(game.shape):
                self.same_value(moves_in_use(moved, player), moves_in_use(game, player))

    def test_multiples_and_large_numbers(self):
        for game in GAMES[:12]:
            value = Fraction(*worth(game))
            self.same_value(worth(game * BIG), pair(value * BIG))
            self.same_value(worth(game + equal_payoffs(game.shape, BIG)), pair(value + BIG))

    def test_ends_soon_at_the_limits(self):
        with self.ends_within(60):
            for seed in range(20):
                game = opposite(seed, (4, 4), 1000)
                safe_mixes(game)
                moves_in_use(game, 0)
                moves_in_use(game, 1)

    def test_names_and_new_values(self):
        self.same_value([worth(game=EXAMPLE), safe_mixes(game=EXAMPLE), is_safe(mix=(2, 3), player=0, game=EXAMPLE),
                         moves_in_use(player=1, game=EXAMPLE)], [(1, 5), ([2, 3], [2, 3, 0]), True, [0, 1]])
        for mix in safe_mixes(EXAMPLE):
            mix.clear()
        moves_in_use(EXAMPLE, 1).clear()
        safe_mixes(STONE)
        self.same_value([safe_mixes(EXAMPLE), moves_in_use(EXAMPLE, 1)], [([2, 3], [2, 3, 0]), [0, 1]])


class SafeTest(Case):
    def test_by_its_definition(self):
        chooser = random.Random(102)
        counts = {True: 0, False: 0}
        for game in GAMES:
            value = Fraction(*worth(game))
            for player, many in enumerate(game.shape):
                safe = safe_mixes(game)[player]
                for mix in [safe, [each * 1000 for each in safe], [chooser.randint(0, 2) for _ in range(many - 1)] + [1],
                            [1] * many]:
                    # By its worst case a mix cannot do better than a safe one.
                    wanted = sure_of(game, player, mix) == value
                    self.assertIs(is_safe(game, player, mix), wanted)
                    counts[wanted] += 1
        self.assertGreater(min(counts.values()), 100)

    def test_bad_weights(self):
        for value in [[2], [2, 3, 0], [0, 0], [2, -3], [-1, 2], [True, 1], [1, False], [1.0, 1], ["1", 1], [None, 1],
                      [[2, 3]], {0: 2, 1: 3}, "23", {2, 3}, (), [], 5] + ODD_VALUES:
            self.fails(BadWeights, {}, is_safe, EXAMPLE, 0, value)
        self.fails(BadWeights, {}, is_safe, EXAMPLE, 1, [2, 3])

    def test_no_player_comes_before_bad_weights(self):
        for player in [2, -1, BIG, True, False, None, "0", 0.0, (0,), [0]] + ODD_VALUES:
            for mix in [[2, 3], [0, 0], None]:
                self.fails(NoPlayer, {"player": player}, is_safe, EXAMPLE, player, mix)
            self.fails(NoPlayer, {"player": player}, moves_in_use, EXAMPLE, player)

    def test_a_mix_is_not_changed(self):
        mix = [4, 6]
        self.same_value([is_safe(EXAMPLE, 0, mix), is_safe(EXAMPLE, 0, tuple(mix)), mix], [True, True, [4, 6]])


class MovesInUseTest(Case):
    def test_moves_of_safe_mixes(self):
        for game in GAMES:
            for player, many in enumerate(game.shape):
                found = moves_in_use(game, player)
                self.assertEqual([type(found)] + [type(each) for each in found], [list] + [int] * len(found))
                # The hints tell just the moves of safe mixes, point [103].
                self.same_value(found, possible_moves(game)[player])
                safe = [move for move, each in enumerate(safe_mixes(game)[player]) if each]
                self.assertEqual([move for move in safe if move not in found], [])

    def test_known_moves(self):
        self.same_value([moves_in_use(opposed([[0, 0], [0, 0], [0, 0]]), 0), moves_in_use(STONE, 1),
                         moves_in_use(opposed([[1, 1, 2]]), 1), moves_in_use(opposed([[1, 2], [1, 0]]), 0),
                         moves_in_use(opposed([[5]]), 1)], [[0, 1, 2], [0, 1, 2], [0, 1], [0, 1], [0]])
        # Move 1 is as good as move 0, but only together with it.
        game = opposed([[2, 0], [0, 2], [1, 1], [0, 1]])
        self.same_value([moves_in_use(game, 0), moves_in_use(game, 1)], [[0, 1, 2], [0, 1]])


class ErrorsTest(Case):
    CALLS = [(worth, []), (safe_mixes, []), (is_safe, [0, [1, 1]]), (is_safe, [9, None]), (moves_in_use, [0]),
             (moves_in_use, [None])]

    def test_not_two_comes_first(self):
        for shape, many in [((4,), 1), ((1,), 1), ((2, 2, 2), 3), ((1, 1, 1), 3)]:
            for game in [equal_payoffs(shape, 5), drawn(1, shape, 9)]:
                for call, more in self.CALLS:
                    self.fails(NotTwo, {"players": many}, call, game, *more)

    def test_then_not_opposed_with_the_first_cell(self):
        for game, cell in [(DARE, (0, 1)), (two([[(1, 1), (0, 2)], [(2, 0), (1, 0)]]), (1, 1)),
                           (two([[(0, 0), (0, 0)], [(-1, 0), (5, 5)]]), (1, 0))]:
            for call, more in self.CALLS:
                self.fails(NotOpposed, {"cell": cell}, call, game, *more)
        for shape in [(2, 3), (4, 4)]:
            for wrong in order(shape)[1:]:
                rows = [[1000 + (cell == wrong), -7] for cell in order(shape)]
                self.fails(NotOpposed, {"cell": wrong}, worth, Game(shape, rows))
            rows = [[1001 if cell == (0, 0) else 1000, -7] for cell in order(shape)]
            self.fails(NotOpposed, {"cell": (0, 1)}, worth, Game(shape, rows))


class RulesTest(Case):
    """Point [103]."""

    def test_heeded_hints_give_the_worth_and_tell_safe_mixes(self):
        chooser = random.Random(103)
        for game in GAMES:
            self.same_value(payoff_range(game, 0), (worth(game), worth(game)))
            for hint in [wide_hint(game), best_hint(game, [chooser.randint(-9, 9) for _ in game])]:
                for player in range(2):
                    shares = [Fraction(*each) for each in told(hint, player)]
                    self.assertEqual(sure_of(game, player, shares), Fraction(*worth(game)))

    def test_the_product_of_safe_mixes_is_heeded(self):
        for game in GAMES:
            self.assertTrue(heeded(game, product(safe_mixes(game))))


if __name__ == "__main__":
    unittest.main()
