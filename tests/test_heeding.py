import itertools
import random
import unittest
from fractions import Fraction

from checking import BIG, ODD_VALUES, Case
from everyhint.errors import BadRule, Mismatch, NoMove, NoPlayer
from everyhint.games import Game, two
from everyhint.heeding import best_plan, gain, gains, heeds, is_heeded, plan_gain, tempting, temptation
from everyhint.hints import Hint, blended, followed, sure
from everyhint.possible import hint_for, wide_hint
from sums import (DARE, DILEMMA, GAMES, LARGE_GAMES, SMALL_GAMES, bets_of, drawn, equal_payoffs, gain_of, heeded,
                  mean_of, order, pair)

NO_NUMBERS = [2, 3, -1, BIG, -BIG, True, False, None, "0", 0.0, (0,), [0]]


def drawn_hint(seed, shape):
    chooser = random.Random(f"{seed} {shape}")
    weights = [chooser.choice([0, 0, 1, 3, chooser.randint(0, 5000)]) for _ in order(shape)]
    return Hint(shape, weights if any(weights) else [1] * len(weights))


def pairs():
    """Games, each with hints of their shape: drawn ones, a single cell, and a heeded one."""
    for seed, game in enumerate(GAMES):
        yield game, drawn_hint(seed, game.shape)
        yield game, sure(game.shape, order(game.shape)[seed % len(game)])
        yield game, wide_hint(game)


def other_shapes():
    return [Hint([1, 4], [1] * 4), Hint([4, 1], [1] * 4), Hint([4], [1] * 4), Hint([2, 2, 1], [1] * 4),
            Hint([2, 3], [1] * 6), Hint([1], [1])]


class ExampleTest(Case):
    def test_examples_of_the_interface(self):
        game = two([[(6, 6), (2, 7)], [(7, 2), (0, 0)]])
        hint = Hint((2, 2), [2, 1, 1, 0])
        self.same_value([is_heeded(game, hint), gain(game, hint, 0, 0, 1), gain(game, hint, 0, 1, 0),
                         is_heeded(game, sure((2, 2), (0, 0)))], [True, (0, 1), (-1, 4), False])
        self.same_value([tempting(game, sure((2, 2), (0, 0))), best_plan(game, sure((2, 2), (0, 0)), 0),
                         temptation(game, sure((2, 2), (0, 0)), 1)], [[(0, 0, 1), (1, 0, 1)], [1, 1], (1, 1)])
        self.same_value([plan_gain(game, hint, 0, [1, 0]), plan_gain(game, hint, 1, [1, 1]),
                         temptation(game, hint, 1)], [(-1, 4), (0, 1), (0, 1)])


class GainTest(Case):
    def test_gains_by_their_definition(self):
        for game, hint in pairs():
            wanted = {bet: pair(gain_of(game, hint, *bet)) for bet in bets_of(game.shape)}
            found = gains(game, hint)
            self.assertEqual(found, wanted)
            self.assertIs(type(found), dict)
            for bet in wanted:
                self.same_value(gain(game, hint, *bet), wanted[bet])

    def test_no_gain_by_the_same_move(self):
        for game, hint in pairs():
            for player, many in enumerate(game.shape):
                for move in range(many):
                    self.same_value(gain(game, hint, player, move, move), (0, 1))

    def test_a_move_that_is_never_told(self):
        hint = sure((2, 2), (0, 0))
        self.same_value([gain(DARE, hint, 0, 1, 0), gain(DARE, hint, 0, 0, 1)], [(0, 1), (1, 1)])

    def test_no_bets(self):
        for shape in [(1,), (1, 1), (1, 1, 1)]:
            game = equal_payoffs(shape, 5)
            hint = Hint(shape, [1])
            self.same_value([gains(game, hint), tempting(game, hint), is_heeded(game, hint)], [{}, [], True])

    def test_large_payoffs_and_weights(self):
        game = Game([2], [[BIG], [-BIG]])
        hint = Hint([2], [1, BIG])
        self.same_value(gain(game, hint, 0, 1, 0), pair(Fraction(2 * BIG * BIG, BIG + 1)))
        self.same_value(gain(game, hint, 0, 0, 1), pair(Fraction(-2 * BIG, BIG + 1)))

    def test_names_and_new_dicts(self):
        hint = Hint((2, 2), [2, 1, 1, 0])
        self.same_value(gain(other=0, told=1, player=0, hint=hint, game=DARE), (-1, 4))
        found = gains(hint=hint, game=DARE)
        self.assertEqual(len(found), 4)
        found.clear()
        self.assertEqual(len(gains(DARE, hint)), 4)

    def test_mismatch_comes_first(self):
        for hint in other_shapes():
            for args in [(0, 0, 1), (7, 0, 1), (0, 7, 1), (0, 0, 7), (None, None, None)]:
                self.fails(Mismatch, {}, gain, DARE, hint, *args)
            self.fails(Mismatch, {}, gains, DARE, hint)

    def test_then_the_player_then_the_moves(self):
        hint = Hint((2, 2), [2, 1, 1, 0])
        for value in NO_NUMBERS + ODD_VALUES:
            for told, other in [(0, 1), (7, 1), (0, 7), (None, True)]:
                self.fails(NoPlayer, {"player": value}, gain, DARE, hint, value, told, other)
            for other in [0, 1, 7, None]:
                self.fails(NoMove, {"move": value}, gain, DARE, hint, 0, value, other)
            for told in [0, 1]:
                self.fails(NoMove, {"move": value}, gain, DARE, hint, 1, told, value)
        self.fails(NoMove, {"move": 7}, gain, DARE, hint, 0, 7, 8)
        self.fails(NoMove, {"move": 7}, gain, DARE, hint, 0, 7, 7)

    def test_moves_are_those_of_the_player(self):
        game = drawn(1, (2, 3, 2), 5)
        hint = drawn_hint(1, (2, 3, 2))
        self.same_value(gain(game, hint, 1, 2, 0), pair(gain_of(game, hint, 1, 2, 0)))
        self.fails(NoMove, {"move": 2}, gain, game, hint, 0, 2, 0)
        self.fails(NoMove, {"move": 2}, gain, game, hint, 2, 0, 2)
        self.fails(NoPlayer, {"player": 3}, gain, game, hint, 3, 0, 0)


class HeedsTest(Case):
    def test_heeds_by_its_definition(self):
        for game, hint in pairs():
            above = [bet for bet in bets_of(game.shape) if gain_of(game, hint, *bet) > 0]
            self.same_value(tempting(game, hint), above)
            self.assertIs(is_heeded(game, hint), above == [])
            for player in range(game.players):
                self.assertIs(heeds(game, hint, player), all(bet[0] != player for bet in above))

    def test_just_one_player_heeds(self):
        game = two([[(1, 0), (1, 0)], [(0, 1), (0, 1)]])
        self.same_value([heeds(game, sure((2, 2), (1, 0)), player) for player in [0, 1]], [False, True])
        self.same_value([heeds(-DARE, sure((2, 2), (0, 1)), player) for player in [0, 1]], [False, False])
        game = two([[(0, 5), (0, 6)]])
        self.same_value([heeds(game, sure((1, 2), (0, 0)), player) for player in [0, 1]], [True, False])

    def test_gains_of_0_do_not_tempt(self):
        for shape in [(2, 2), (4,), (2, 2, 2), (4, 4)]:
            game = equal_payoffs(shape, 1000)
            for seed in range(5):
                self.assertIs(is_heeded(game, drawn_hint(seed, shape)), True)

    def test_a_gain_may_outweigh_a_loss(self):
        game = Game((2, 2), [[0, 0], [0, 0], [3, 0], [-2, 0]])
        self.same_value([is_heeded(game, Hint((2, 2), weights)) for weights in [[2, 3, 0, 0], [3, 4, 0, 0]]],
                        [True, False])

    def test_names(self):
        hint = sure((2, 2), (0, 0))
        self.same_value([heeds(player=1, hint=hint, game=DARE), is_heeded(hint=hint, game=DARE),
                         tempting(hint=hint, game=DARE)], [False, False, [(0, 0, 1), (1, 0, 1)]])

    def test_wrong_values(self):
        for hint in other_shapes():
            for call in [is_heeded, tempting]:
                self.fails(Mismatch, {}, call, DARE, hint)
            for player in [0, 1, 2, None, True]:
                self.fails(Mismatch, {}, heeds, DARE, hint, player)
        for value in NO_NUMBERS + ODD_VALUES:
            self.fails(NoPlayer, {"player": value}, heeds, DARE, sure((2, 2), (0, 0)), value)


class PlanTest(Case):
    def test_plan_gains_are_sums_of_gains_and_differences_of_means(self):
        for seed, game in enumerate(SMALL_GAMES + LARGE_GAMES):
            hint = drawn_hint(seed, game.shape)
            for player, many in enumerate(game.shape):
                payoffs = [game[cell][player] for cell in order(game.shape)]
                for plan in list(itertools.product(range(many), repeat=many))[seed % 7::7]:
                    total = sum((gain_of(game, hint, player, told, move) for told, move in enumerate(plan)), Fraction(0))
                    played = followed(hint, player, plan)
                    self.assertEqual(total, mean_of(played, payoffs) - mean_of(hint, payoffs))
                    self.same_value(plan_gain(game, hint, player, list(plan)), pair(total))
                    self.same_value(plan_gain(game, hint, player, plan), pair(total))

    def test_best_plans_by_their_definition(self):
        for game, hint in pairs():
            for player, many in enumerate(game.shape):
                wanted = []
                for told in range(many):
                    found = [gain_of(game, hint, player, told, move) for move in range(many)]
                    wanted.append(found.index(max(found)) if max(found) > 0 else told)
                plan = best_plan(game, hint, player)
                self.same_value(plan, wanted)
                total = sum((gain_of(game, hint, player, told, move) for told, move in enumerate(plan)), Fraction(0))
                self.same_value(temptation(game, hint, player), pair(total))
                self.assertIs(total == 0, heeds(game, hint, player))

    def test_no_plan_gains_more_than_the_best_one(self):
        for seed, game in enumerate(SMALL_GAMES):
            hint = drawn_hint(seed, game.shape)
            for player, many in enumerate(game.shape):
                most = Fraction(*temptation(game, hint, player))
                if many < 4:
                    plans = list(itertools.product(range(many), repeat=many))
                    self.assertEqual(most, max(Fraction(*plan_gain(game, hint, player, plan)) for plan in plans))

    def test_the_least_of_the_best_moves(self):
        game = Game([4], [[1], [5], [0], [5]])
        self.same_value(best_plan(game, Hint([4], [1, 1, 1, 1]), 0), [1, 1, 1, 3])
        self.same_value(best_plan(game, Hint([4], [0, 1, 1, 0]), 0), [0, 1, 1, 3])
        self.same_value([temptation(game, Hint([4], [1, 1, 1, 1]), 0), temptation(game, Hint([4], [0, 1, 0, 2]), 0)],
                        [(9, 4), (0, 1)])

    def test_names_and_arguments(self):
        hint, plan = Hint((2, 2), [2, 1, 1, 0]), [1, 0]
        self.same_value(plan_gain(plan=plan, player=0, hint=hint, game=DARE), (-1, 4))
        self.same_value([plan, hint.weights()], [[1, 0], [2, 1, 1, 0]])
        self.same_value([best_plan(player=0, hint=hint, game=DARE), temptation(player=0, hint=hint, game=DARE)],
                        [[0, 1], (0, 1)])
        best_plan(DARE, hint, 0).clear()
        self.same_value(best_plan(DARE, hint, 0), [0, 1])

    def test_mismatch_then_the_player_then_the_plan(self):
        hint = Hint((2, 2), [2, 1, 1, 0])
        wrong = [[], [0], [0, 1, 0], [0, 2], [2, 0], [-1, 0], [0, True], [False, 1], [None, 0], ["0", 1], [0.0, 1],
                 [(0, 1)], "01", {0: 0, 1: 1}, 0, [0, BIG]]
        for plan in wrong + ODD_VALUES:
            for other in other_shapes():
                self.fails(Mismatch, {}, plan_gain, DARE, other, 0, plan)
                self.fails(Mismatch, {}, plan_gain, DARE, other, 9, plan)
            self.fails(NoPlayer, {"player": 2}, plan_gain, DARE, hint, 2, plan)
            self.fails(NoPlayer, {"player": False}, plan_gain, DARE, hint, False, plan)
            for player in [0, 1]:
                self.fails(BadRule, {"player": player}, plan_gain, DARE, hint, player, plan)

    def test_wrong_values_for_best_plans(self):
        for call in [best_plan, temptation]:
            for hint in other_shapes():
                for player in [0, 5, None]:
                    self.fails(Mismatch, {}, call, DARE, hint, player)
            for value in NO_NUMBERS + ODD_VALUES:
                self.fails(NoPlayer, {"player": value}, call, DARE, sure((2, 2), (0, 0)), value)


class UnchangedTest(Case):
    """Point [44]."""

    def test_amounts_that_do_not_depend_on_the_own_move(self):
        chooser = random.Random(44)
        for game, hint in pairs():
            for player in range(game.players):
                rows, extra = game.payoffs(), {}
                for index, cell in enumerate(order(game.shape)):
                    rest = cell[:player] + cell[player + 1:]
                    rows[index][player] += extra.setdefault(rest, chooser.randint(-1000, 1000))
                self.same_value(gains(Game(game.shape, rows), hint), gains(game, hint))

    def test_multiples_of_the_payoffs_of_one_player(self):
        for game, hint in pairs():
            for player in range(game.players):
                rows = [[payoff * 7 if each == player else payoff for each, payoff in enumerate(row)]
                        for row in game.payoffs()]
                self.same_value(tempting(Game(game.shape, rows), hint), tempting(game, hint))

    def test_blended_hints_are_heeded(self):
        for game in SMALL_GAMES + LARGE_GAMES:
            hints = [wide_hint(game)]
            hints += [hint for hint in [hint_for(game, cell) for cell in game] if hint is not None]
            for shift in [0, 1, 4]:
                shares = [(index * index + shift) % 7 for index in range(len(hints))]
                shares[0] += 1
                found = blended(hints, shares)
                self.assertIs(is_heeded(game, found), True)
                self.assertTrue(heeded(game, found))

    def test_equal_calls_and_arguments(self):
        hint, game = Hint((2, 2), [3, 1, 1, 1]), DILEMMA
        first = [gains(game, hint), tempting(game, hint), best_plan(game, hint, 0), temptation(game, hint, 1)]
        temptation(DARE, sure((2, 2), (0, 0)), 0)
        again = [gains(game, hint), tempting(game, hint), best_plan(game, hint, 0), temptation(game, hint, 1)]
        self.same_value(again, first)
        self.same_value([game.payoffs(), hint.weights()], [[[3, 3], [0, 5], [5, 0], [1, 1]], [3, 1, 1, 1]])


if __name__ == "__main__":
    unittest.main()
