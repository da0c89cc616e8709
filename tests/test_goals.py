import random
import unittest
from fractions import Fraction

from checking import BIG, ODD_VALUES, Case
from everyhint.errors import BadBook, BadRows, Mismatch, NoCell, NoPlayer
from everyhint.games import Game, two
from everyhint.goals import (best_hint, book_for, chance_range, greatest_mean, payoff_goal, payoff_range,
                             shows_greatest)
from everyhint.hints import Hint, sure
from everyhint.possible import book_against, wide_hint
from sums import (DARE, DILEMMA, EDGE_GAMES, GAMES, LARGE_GAMES, SHAPES, SMALL_GAMES, balance_of, chances, drawn,
                  equal_payoffs, heeded, is_book_of, mean_of, order, pair, worse_moves)

WRONG_ROWS = [[], [1], [1, 1, 1], [1] * 5, [1, 1, 1, True], [False, 1, 1, 1], [1, 1, 1, None], [1, 1, 1, 1.0],
              ["1"] * 4, "1111", [[1]] * 4, [[1, 1], [1, 1]], {0: 1, 1: 1, 2: 1, 3: 1}, {1, 2, 3, 4}, 4] + ODD_VALUES
WRONG_BOOKS = [None, True, "", "ab", 1, [], (), [(0, 0, 1)], {(0, 0, 1)}, {(0, 0, 0): 1}, {(2, 0, 1): 1}, {0: 1},
               {(0, 0, 1): 0}, {(0, 0, 1): -1}, {(0, 0, 1): True}, {(0, 0, 1): 1.0}, {(0, 0, True): 1},
               {(0, 0, 1): 1, (1, 0, 1): None}, {(0, 0, 1): 1, (1, 0, 2): 1}]
WRONG_NUMBERS = [2, 3, -1, BIG, True, False, None, "0", 0.0, (0,), [0]] + ODD_VALUES


def drawn_goals(seed, game):
    """Goals from the limits and within, and some that are the same everywhere."""
    chooser = random.Random(f"{seed}")
    many = len(game)
    yield [chooser.randint(-1000, 1000) for _ in range(many)]
    yield [chooser.randint(-1, 1) for _ in range(many)]
    yield [chooser.choice([-1000, 1000])] * many


class GoalCase(Case):
    def check(self, game, goal):
        """The evidence of point [71] shows the greatest mean, which is returned."""
        value, hint = greatest_mean(game, goal), best_hint(game, goal)
        self.same_value(value, pair(Fraction(*value)))
        self.assertIs(type(hint), Hint)
        self.assertEqual(hint.shape, game.shape)
        self.assertTrue(heeded(game, hint))
        self.same_value(pair(mean_of(hint, goal)), value)
        told = book_for(game, goal)
        self.assertEqual([type(told), len(told), type(told[0])], [tuple, 2, int])
        scale, book = told
        self.assertGreaterEqual(scale, 1)
        self.assertTrue(is_book_of(game, book))
        for cell, number in zip(order(game.shape), goal):
            self.assertLessEqual(number * scale + balance_of(game, book, cell), scale * Fraction(*value))
        self.assertIs(shows_greatest(game, goal, value, hint, scale, book), True)
        return Fraction(*value)


class GreatestMeanTest(GoalCase):
    def test_examples_of_the_interface(self):
        dare = two([[(6, 6), (2, 7)], [(7, 2), (0, 0)]])
        goal = payoff_goal(dare, [1, 1])
        self.same_value([goal, greatest_mean(dare, goal), best_hint(dare, goal).weights(), book_for(dare, goal)],
                        [[12, 9, 9, 0], (21, 2), [2, 1, 1, 0], (4, {(0, 0, 1): 3, (1, 0, 1): 3})])
        self.same_value([payoff_range(dare, 0), chance_range(dare, (0, 0)),
                         shows_greatest(dare, goal, (21, 2), best_hint(dare, goal), 4, {})],
                        [((2, 1), (7, 1)), ((0, 1), (1, 2)), False])

    def test_evidence_in_all_games(self):
        for seed, game in enumerate(GAMES):
            for goal in drawn_goals(seed, game):
                self.check(game, goal)

    def test_goals_that_are_the_same_everywhere(self):
        for game in EDGE_GAMES[::5] + LARGE_GAMES[:2]:
            for number in [0, 1000, -1000]:
                self.same_value(greatest_mean(game, [number] * len(game)), (number, 1))

    def test_one_player_and_a_single_cell(self):
        game = Game([4], [[3], [1000], [-1000], [1000]])
        self.same_value([greatest_mean(game, [9, 1, 9, 2]), best_hint(game, [9, 1, 9, 2]).weights()],
                        [(2, 1), [0, 0, 0, 1]])
        for shape in [(1,), (1, 1), (1, 1, 1)]:
            game = equal_payoffs(shape, 7)
            self.same_value([greatest_mean(game, [-5]), best_hint(game, [-5]).weights(), book_for(game, [-5])],
                            [(-5, 1), [1], (1, {})])

    def test_equal_payoffs_and_worse_moves(self):
        for shape in SHAPES:
            goal = [(7 * index) % 5 - 2 for index in range(len(order(shape)))]
            self.same_value(greatest_mean(equal_payoffs(shape, 3), goal), (max(goal), 1))
            self.same_value(greatest_mean(worse_moves(shape), goal), (goal[-1], 1))

    def test_large_numbers(self):
        game = drawn(8, (4, 4), 1000) * BIG + drawn(9, (4, 4), 1000)
        self.check(game, [BIG - index for index in range(16)])

    def test_ends_soon_at_the_limits(self):
        with self.ends_within(60):
            for game in LARGE_GAMES:
                for cell in game:
                    chance_range(game, cell)
                for player in range(game.players):
                    payoff_range(game, player)
                greatest_mean(game, payoff_goal(game, [1000, -1000, 1000][:game.players]))

    def test_wrong_goals(self):
        for goal in WRONG_ROWS:
            for call in [greatest_mean, best_hint, book_for]:
                self.fails(BadRows, {}, call, DARE, goal)

    def test_wrong_goals_for_games_without_bets(self):
        for shape in [(1,), (1, 1), (1, 1, 1)]:
            for goal in [[], [1, 2], [True], [None], (1, 1), 1]:
                for call in [greatest_mean, best_hint, book_for]:
                    self.fails(BadRows, {}, call, equal_payoffs(shape, 3), goal)
                self.fails(BadRows, {}, shows_greatest, equal_payoffs(shape, 3), goal, (1, 1), Hint(shape, [1]), 1, {})

    def test_tuples_names_arguments_and_new_values(self):
        goal = [12, 9, 9, 0]
        self.same_value([greatest_mean(goal=goal, game=DARE), best_hint(goal=goal, game=DARE).weights(),
                         book_for(goal=goal, game=DARE)],
                        [(21, 2), [2, 1, 1, 0], (4, {(0, 0, 1): 3, (1, 0, 1): 3})])
        self.same_value([greatest_mean(DARE, tuple(goal)), best_hint(DARE, tuple(goal)).weights(),
                         book_for(DARE, tuple(goal))],
                        [(21, 2), [2, 1, 1, 0], (4, {(0, 0, 1): 3, (1, 0, 1): 3})])
        first = book_for(DARE, goal)
        first[1].clear()
        greatest_mean(DILEMMA, goal)
        self.same_value(book_for(DARE, goal), (4, {(0, 0, 1): 3, (1, 0, 1): 3}))
        self.same_value([goal, DARE.payoffs()], [[12, 9, 9, 0], [[6, 6], [2, 7], [7, 2], [0, 0]]])


class RulesTest(GoalCase):
    """Point [74]."""

    def test_multiples_numbers_added_and_sums(self):
        for seed, game in enumerate(SMALL_GAMES + LARGE_GAMES):
            one, other, _ = drawn_goals(seed, game)
            most, least = Fraction(*greatest_mean(game, one)), Fraction(*greatest_mean(game, other))
            for factor in [0, 1, 3, 1000]:
                self.same_value(greatest_mean(game, [factor * number for number in one]), pair(factor * most))
            for number in [-1000, 17]:
                self.same_value(greatest_mean(game, [each + number for each in one]), pair(most + number))
            both = Fraction(*greatest_mean(game, [each + more for each, more in zip(one, other)]))
            self.assertLessEqual(both, most + least)

    def test_the_greatest_chance_is_0_where_a_book_bars(self):
        for game in SMALL_GAMES + LARGE_GAMES:
            for cell in order(game.shape):
                self.assertIs(chance_range(game, cell)[1] == (0, 1), book_against(game, cell) is not None)


class ShowsGreatestTest(GoalCase):
    GOAL = [12, 9, 9, 0]
    BOOK = {(0, 0, 1): 3, (1, 0, 1): 3}

    def says(self, wanted, value=(21, 2), hint=None, scale=4, book=None, goal=None):
        told = Hint((2, 2), [2, 1, 1, 0]) if hint is None else hint
        found = shows_greatest(DARE, goal or self.GOAL, value, told, scale, self.BOOK if book is None else book)
        self.assertIs(found, wanted)

    def test_right_evidence(self):
        self.says(True)
        self.says(True, scale=8, book={(1, 0, 1): 6, (0, 0, 1): 6})
        self.says(True, hint=Hint((2, 2), [6, 3, 3, 0]), goal=tuple(self.GOAL))

    def test_other_values(self):
        for value in [(0, 1), (10, 1), (11, 1), (-21, 2), (21, 1), (2, 21), (BIG, 1)]:
            self.says(False, value=value)

    def test_hints_that_are_not_heeded_or_have_a_lesser_mean(self):
        self.says(False, hint=sure((2, 2), (0, 0)))
        self.says(False, value=(12, 1), hint=sure((2, 2), (0, 0)))
        self.says(False, hint=Hint((2, 2), [1, 1, 1, 0]))
        self.says(False, value=(10, 1), hint=Hint((2, 2), [1, 1, 1, 0]))

    def test_a_hint_that_is_not_heeded_with_the_value(self):
        # Its mean is 21/2 as well, but player 0 gains if told to play move 0.
        self.assertFalse(heeded(DARE, Hint((2, 2), [7, 0, 0, 1])))
        self.says(False, hint=Hint((2, 2), [7, 0, 0, 1]))

    def test_hints_with_another_shape(self):
        for shape in [(1, 4), (4, 1), (4,), (2, 2, 1)]:
            self.says(False, hint=Hint(shape, [2, 1, 1, 0]))
        self.says(False, hint=Hint((1,), [1]))

    def test_other_scales(self):
        for scale in [0, -1, -4, 1, 3, 5, 40, BIG]:
            self.says(False, scale=scale)
        self.says(False, scale=0, book={})

    def test_other_books(self):
        for book in [{}, {(0, 0, 1): 3}, {(0, 0, 1): 3, (1, 0, 1): 2}, {(0, 0, 1): 4, (1, 0, 1): 3},
                     {(0, 0, 1): 3, (1, 0, 1): 3, (0, 1, 0): 1}, {(0, 0, 1): 6, (1, 0, 1): 6},
                     {(0, 1, 0): 3, (1, 1, 0): 3}]:
            self.says(False, book=book)

    def test_a_book_may_leave_a_rest(self):
        game, goal = DILEMMA, [3, 3, 3, 5]
        hint = sure((2, 2), (1, 1))
        for scale, book in [(1, {}), (7, {}), (1, {(0, 0, 1): 1000}), (2, {(1, 0, 1): 3, (0, 0, 1): 5})]:
            self.assertIs(shows_greatest(game, goal, (5, 1), hint, scale, book), True)
        self.assertIs(shows_greatest(game, goal, (5, 1), hint, 1, {(0, 1, 0): 1}), False)

    def test_by_its_definition(self):
        chooser = random.Random(72)
        counts = {True: 0, False: 0}
        for seed, game in enumerate(SMALL_GAMES + EDGE_GAMES[::4]):
            for goal in drawn_goals(seed, game):
                value, hint = greatest_mean(game, goal), chooser.choice([best_hint(game, goal), wide_hint(game)])
                scale, book = book_for(game, goal)
                scale += chooser.choice([0, 0, 1])
                if book and chooser.random() < 0.5:
                    book[chooser.choice(list(book))] += 1
                wanted = heeded(game, hint) and mean_of(hint, goal) == Fraction(*value)
                for cell, number in zip(order(game.shape), goal):
                    wanted &= number * scale + balance_of(game, book, cell) <= scale * Fraction(*value)
                self.assertIs(shows_greatest(game, goal, value, hint, scale, book), wanted)
                counts[wanted] += 1
        self.assertGreater(min(counts.values()), 40)

    def test_bad_rows_come_before_bad_books(self):
        hint = Hint((2, 2), [2, 1, 1, 0])
        for goal in WRONG_ROWS:
            for book in [self.BOOK, {}, None, {(0, 0, 0): 1}]:
                self.fails(BadRows, {}, shows_greatest, DARE, goal, (21, 2), hint, 4, book)
        for book in WRONG_BOOKS:
            self.fails(BadBook, {}, shows_greatest, DARE, self.GOAL, (21, 2), hint, 4, book)
            self.fails(BadBook, {}, shows_greatest, DARE, self.GOAL, (1, 2), Hint((1,), [1]), 0, book)

    def test_names_and_arguments(self):
        book, goal = {(1, 0, 1): 3, (0, 0, 1): 3}, [12, 9, 9, 0]
        found = shows_greatest(book=book, scale=4, hint=Hint((2, 2), [2, 1, 1, 0]), value=(21, 2), goal=goal, game=DARE)
        self.assertIs(found, True)
        self.same_value([book, goal], [{(1, 0, 1): 3, (0, 0, 1): 3}, [12, 9, 9, 0]])


class PayoffGoalTest(Case):
    def test_payoff_goals_by_their_definition(self):
        chooser = random.Random(73)
        for game in GAMES:
            shares = [chooser.randint(-1000, 1000) for _ in game.shape]
            wanted = [sum(share * game[cell][player] for player, share in enumerate(shares))
                      for cell in order(game.shape)]
            self.same_value(payoff_goal(game, shares), wanted)
            self.same_value(payoff_goal(game, tuple(shares)), wanted)

    def test_shares_of_0_and_below(self):
        self.same_value([payoff_goal(DARE, [0, 0]), payoff_goal(DARE, [-1, 2]), payoff_goal(DARE, [BIG, 0])],
                        [[0, 0, 0, 0], [6, 12, -3, 0], [6 * BIG, 2 * BIG, 7 * BIG, 0]])

    def test_names_and_arguments(self):
        shares = [1, 1]
        self.same_value(payoff_goal(shares=shares, game=DARE), [12, 9, 9, 0])
        self.same_value(shares, [1, 1])

    def test_mismatch_for_other_values(self):
        wrong = [[], [1], [1, 1, 1], [1, True], [False, 1], [1, None], [1.0, 1], ["1", 1], [(1, 1)], [[1, 1]], "11",
                 {0: 1, 1: 1}, {1, 2}, 2]
        for shares in wrong + ODD_VALUES:
            self.fails(Mismatch, {}, payoff_goal, DARE, shares)
        self.fails(Mismatch, {}, payoff_goal, drawn(1, (2, 2, 2), 3), [1, 1])


class RangeTest(GoalCase):
    def test_payoff_ranges(self):
        for game in GAMES:
            for player in range(game.players):
                goal = [game[cell][player] for cell in order(game.shape)]
                most, least = self.check(game, goal), -self.check(game, [-number for number in goal])
                self.same_value(payoff_range(game, player), (pair(least), pair(most)))
                self.assertLessEqual(least, most)

    def test_chance_ranges(self):
        for game in SMALL_GAMES[::3] + LARGE_GAMES[:2]:
            for index, cell in enumerate(order(game.shape)):
                goal = [int(each == index) for each in range(len(game))]
                most, least = self.check(game, goal), -self.check(game, [-number for number in goal])
                self.same_value(chance_range(game, cell), (pair(least), pair(most)))

    def test_ranges_of_a_single_value(self):
        self.same_value([payoff_range(DILEMMA, 1), chance_range(DILEMMA, (1, 1)), chance_range(DILEMMA, (0, 1))],
                        [((1, 1), (1, 1)), ((1, 1), (1, 1)), ((0, 1), (0, 1))])
        pennies = two([[(1, -1), (-1, 1)], [(-1, 1), (1, -1)]])
        self.same_value([payoff_range(pennies, 0), chance_range(pennies, (1, 0))],
                        [((0, 1), (0, 1)), ((1, 4), (1, 4))])
        self.same_value([payoff_range(Game([2], [[-5], [-5]]), 0), chance_range(Game([1], [[3]]), (0,))],
                        [((-5, 1), (-5, 1)), ((1, 1), (1, 1))])

    def test_chances_of_heeded_hints_lie_in_the_ranges(self):
        for game in SMALL_GAMES:
            for cell, chance in chances(wide_hint(game)).items():
                least, most = chance_range(game, cell)
                self.assertTrue(0 <= Fraction(*least) <= chance <= Fraction(*most) <= 1)

    def test_no_player(self):
        for value in WRONG_NUMBERS:
            self.fails(NoPlayer, {"player": value}, payoff_range, DARE, value)
        self.fails(NoPlayer, {"player": 1}, payoff_range, Game([2], [[1], [2]]), 1)

    def test_no_cell(self):
        for value in [(0,), (), (0, 0, 0), (2, 0), (0, 2), (-1, 0), [0, 0], (True, 0), (0, False), (0, 1.0), "00",
                      0] + ODD_VALUES:
            self.fails(NoCell, {"cell": value}, chance_range, DARE, value)

    def test_names(self):
        self.same_value([payoff_range(player=0, game=DARE), chance_range(cell=(0, 0), game=DARE)],
                        [((2, 1), (7, 1)), ((0, 1), (1, 2))])


if __name__ == "__main__":
    unittest.main()
