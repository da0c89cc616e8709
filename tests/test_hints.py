import itertools
import unittest
from fractions import Fraction

from checking import BAD_SHAPES, BIG, GOOD_SHAPES, NO_LISTS, ODD_VALUES, Case
from everyhint.errors import (BadRows, BadRule, BadShape, BadShares, BadWeights, Mismatch, NoCell, NoMove,
                              NoPlayer)
from everyhint.games import Game, two
from everyhint.hints import Hint, blended, followed, known, mean, means, product, sure, support, told

NO_PLAYERS = [2, 3, -1, BIG, -BIG, True, False, None, "0", 0.0, (0,), [0]]
SKEW = [5, 0, 3, 7, 1, 0, 0, 2, 9, 4, 0, 6]


def small():
    return Hint((2, 2), [4, 2, 2, 0])


def skew():
    """A hint for three players with 12 cells, some of which are never drawn."""
    return Hint((2, 3, 2), SKEW)


def order(shape):
    return list(itertools.product(*[range(many) for many in shape]))


def pair(fraction):
    return (fraction.numerator, fraction.denominator)


def chance(hint, cell):
    return Fraction(*hint[cell])


class HintTest(Case):
    def test_examples_of_the_interface(self):
        hint = Hint((2, 2), [4, 2, 2, 0])
        self.same_value(
            [hint.unit, hint.weights(), hint[0, 1], support(hint), told(hint, 0), known(hint, 1, 1).weights(),
             known(sure((2, 2), (0, 0)), 0, 1)],
            [4, [2, 1, 1, 0], (1, 4), [(0, 0), (0, 1), (1, 0)], [(3, 4), (1, 4)], [0, 1, 0, 0], None])
        self.same_value(
            [product([[1, 1], [2, 1]]).weights(), blended([hint, sure((2, 2), (1, 1))], [2, 1]).weights(),
             mean(hint, [3, 0, 0, 5])],
            [[2, 1, 2, 1], [2, 1, 1, 2], (3, 2)])
        self.same_value(followed(hint, 0, [1, 1]).weights(), [0, 0, 3, 1])

    def test_lowest_terms(self):
        self.same_value([Hint([3], [6, 0, 9]).weights(), Hint([3], [6, 0, 9]).unit], [[2, 0, 3], 5])
        self.same_value([Hint([2], [BIG, 3 * BIG]).weights(), Hint([2], [BIG, 3 * BIG]).unit], [[1, 3], 4])
        self.same_value([Hint([2], [BIG, 1]).weights(), Hint([2], [BIG, 1]).unit], [[BIG, 1], BIG + 1])

    def test_weights_that_are_all_0_but_one(self):
        for weight in [1, 5, BIG]:
            hint = Hint([2, 2], [0, 0, weight, 0])
            self.same_value([hint.weights(), hint.unit, hint[1, 0], hint[0, 0]], [[0, 0, 1, 0], 1, (1, 1), (0, 1)])

    def test_single_cell_one_player_and_16_cells(self):
        self.same_value([Hint([1], [7]).weights(), Hint([1], [7]).unit, Hint([1], [7])[(0,)]], [[1], 1, (1, 1)])
        self.same_value(Hint((4,), [1, 2, 3, 4])[(3,)], (2, 5))
        hint = Hint([4, 4], list(range(16)))
        self.same_value([hint.unit, hint[3, 3], hint[0, 0], hint[1, 0]], [120, (1, 8), (0, 1), (1, 30)])

    def test_all_shapes(self):
        for shape in GOOD_SHAPES:
            weights = [1 + index * index for index in range(len(order(shape)))]
            hint = Hint(shape, weights)
            self.same_value([hint.shape, hint.unit, hint.weights()], [tuple(shape), sum(weights), weights])
            self.same_value([hint[cell] for cell in order(shape)],
                            [pair(Fraction(weight, sum(weights))) for weight in weights])

    def test_bad_shapes_come_before_bad_weights(self):
        for shape in BAD_SHAPES:
            self.fails(BadShape, {}, Hint, shape, [1, 1, 1, 1])
            self.fails(BadShape, {}, Hint, shape, None)

    def test_bad_weights(self):
        wrong = [[], [1], [1, 1, 1], [1, 1, 1, 1, 1], [0, 0, 0, 0], [1, 1, 1, -1], [-1, -1, -1, -1], [1, 1, 1, True],
                 [False, 1, 1, 1], [1, 1, 1, None], [1, 1.0, 1, 1], ["1", 1, 1, 1], [[1], 1, 1, 1], [(1, 1), (1, 1)],
                 "1111", {0: 1, 1: 1, 2: 1, 3: 1}, [1, 1, 1, BIG, -BIG], [BIG, BIG, BIG, -BIG]]
        for weights in wrong + ODD_VALUES:
            self.fails(BadWeights, {}, Hint, [2, 2], weights)
            if isinstance(weights, list):
                self.fails(BadWeights, {}, Hint, [2, 2], tuple(weights))

    def test_no_cells(self):
        hint = small()
        for value in [(0,), (), (0, 0, 0), (2, 0), (0, 2), (-1, 0), (0, -1), [0, 0], (True, 0), (0, False), (0, 1.0),
                      (0, None), ([0], 0), "00", 0, (BIG, 0)] + ODD_VALUES:
            with self.assertRaises(NoCell) as caught:
                hint[value]
            self.assertIs(caught.exception.cell, value)

    def test_lists_are_copied(self):
        shape, weights = [2, 2], [4, 2, 2, 0]
        hint = Hint(weights=weights, shape=shape)
        self.same_value([shape, weights], [[2, 2], [4, 2, 2, 0]])
        shape.append(1)
        weights[0] = 1
        hint.weights()[0] = 7
        self.same_value([hint.shape, hint.weights(), hint.unit, hint[0, 0]], [(2, 2), [2, 1, 1, 0], 4, (1, 2)])

    def test_tuples_do_as_well_as_lists(self):
        self.assertTrue(Hint((2, 2), (4, 2, 2, 0)) == Hint([2, 2], [4, 2, 2, 0]))
        self.same_value(Hint((2, 2), (4, 2, 2, 0)).weights(), [2, 1, 1, 0])
        weights = Hint((2, 2), (2, 1, 1, 0)).weights()
        self.same_value(weights, [2, 1, 1, 0])

    def test_equality(self):
        self.assertIs(Hint([2, 2], [4, 2, 2, 0]) == Hint([2, 2], [2, 1, 1, 0]), True)
        self.assertIs(Hint([2, 2], [4, 2, 2, 0]) != Hint([2, 2], [2, 1, 1, 0]), False)
        self.assertIs(Hint([2, 2], [4, 2, 2, 0]) == Hint([2, 2], [4, 2, 2, 1]), False)
        for shape in [[1, 4], [4, 1], [4]]:
            self.assertIs(Hint([2, 2], [4, 2, 2, 0]) == Hint(shape, [4, 2, 2, 0]), False)
            self.assertIs(Hint([2, 2], [4, 2, 2, 0]) != Hint(shape, [4, 2, 2, 0]), True)

    def test_values_of_other_classes_are_not_equal(self):
        class Anything:
            def __eq__(self, other):
                return True

        for value in ODD_VALUES + [[2, 1, 1, 0], (2, 2), Game([2, 2], [[1, 1]] * 4), Anything()]:
            self.assertIs(small() == value, False)
            self.assertIs(small() != value, True)

    def test_a_hint_is_not_iterated_over(self):
        with self.assertRaises(TypeError):
            list(small())


class ToldTest(Case):
    def test_support(self):
        self.same_value(support(hint=small()), [(0, 0), (0, 1), (1, 0)])
        self.same_value(support(skew()), [cell for cell, weight in zip(order((2, 3, 2)), SKEW) if weight])
        self.same_value(support(Hint([1, 1], [3])), [(0, 0)])
        support(small()).clear()
        self.same_value(support(Hint([3], [0, 0, 2])), [(2,)])

    def test_told(self):
        for player, many in enumerate((2, 3, 2)):
            wanted = [Fraction(sum([weight for cell, weight in zip(order((2, 3, 2)), SKEW) if cell[player] == move]), 37)
                      for move in range(many)]
            self.same_value(told(skew(), player), [pair(each) for each in wanted])
        self.same_value(told(player=1, hint=small()), [(3, 4), (1, 4)])
        self.same_value([told(Hint([3], [2, 0, 2]), 0), told(Hint([1], [5]), 0)], [[(1, 2), (0, 1), (1, 2)], [(1, 1)]])

    def test_known(self):
        for player, many in enumerate((2, 3, 2)):
            for move in range(many):
                weights = [weight if cell[player] == move else 0 for cell, weight in zip(order((2, 3, 2)), SKEW)]
                self.assertTrue(known(skew(), player, move) == Hint((2, 3, 2), weights))
        self.same_value(known(move=1, player=1, hint=small()).shape, (2, 2))
        self.same_value(known(Hint([2, 2], [6, 3, 4, 0]), 0, 0).weights(), [2, 1, 0, 0])

    def test_a_move_that_is_never_told(self):
        hint = Hint((3, 2), [1, 0, 0, 0, 2, 0])
        self.same_value([told(hint, 0), told(hint, 1)], [[(1, 3), (0, 1), (2, 3)], [(1, 1), (0, 1)]])
        self.same_value([known(hint, 0, 1), known(hint, 1, 1)], [None, None])

    def test_no_player(self):
        for player in NO_PLAYERS:
            self.fails(NoPlayer, {"player": player}, told, small(), player)
            for move in [0, 7, None]:
                self.fails(NoPlayer, {"player": player}, known, small(), player, move)
        self.fails(NoPlayer, {"player": 1}, told, Hint([2], [1, 1]), 1)

    def test_no_move(self):
        for move in NO_PLAYERS:
            self.fails(NoMove, {"move": move}, known, small(), 0, move)
        self.fails(NoMove, {"move": 2}, known, skew(), 0, 2)
        self.assertIsNotNone(known(skew(), 1, 2))
        self.fails(NoMove, {"move": 3}, known, skew(), 1, 3)


class MadeTest(Case):
    def test_sure(self):
        for shape in GOOD_SHAPES:
            for index, cell in enumerate(order(shape)):
                hint = sure(shape, cell)
                wanted = [0] * len(order(shape))
                wanted[index] = 1
                self.same_value([hint.shape, hint.weights(), hint[cell]], [tuple(shape), wanted, (1, 1)])
        self.same_value(sure(cell=(1,), shape=(2,)).weights(), [0, 1])

    def test_sure_with_wrong_values(self):
        for shape in BAD_SHAPES:
            self.fails(BadShape, {}, sure, shape, (0, 0))
            self.fails(BadShape, {}, sure, shape, None)
        for value in [(0,), (0, 2), (2, 0), (-1, 0), [0, 0], (True, 0), (0, 0, 0), 0] + ODD_VALUES:
            with self.assertRaises(NoCell) as caught:
                sure([2, 2], value)
            self.assertIs(caught.exception.cell, value)

    def test_product(self):
        mixes = [[1, 2], [0, 3, 5], [4, 1]]
        hint = product(mixes)
        self.same_value([hint.shape, mixes], [(2, 3, 2), [[1, 2], [0, 3, 5], [4, 1]]])
        for cell in order((2, 3, 2)):
            wanted = Fraction(mixes[0][cell[0]], 3) * Fraction(mixes[1][cell[1]], 8) * Fraction(mixes[2][cell[2]], 5)
            self.same_value(hint[cell], pair(wanted))
        self.assertTrue(hint == product(mixes=((1, 2), (0, 3, 5), (4, 1))))

    def test_product_of_one_mix_and_of_sure_mixes(self):
        self.same_value(product([[2, 4]]).weights(), [1, 2])
        self.same_value([product([[9]]).weights(), product([[9], [2], [1]]).shape], [[1], (1, 1, 1)])
        self.assertTrue(product([[0, 7], [0, 0, BIG]]) == sure([2, 3], (1, 2)))

    def test_product_of_lists_whose_lengths_are_no_shape(self):
        wrong = [[], (), [[]], [[1], []], [[1] * 5], [[1, 1], [1] * 5], [[1]] * 4, [[1] * 3, [1] * 3, [1] * 2],
                 [1], [1, 1], [[1], 1], [[1], None], [[1], "1"], [[1], {0: 1}], "11", {0: [1]}]
        for mixes in wrong + ODD_VALUES:
            self.fails(BadShape, {}, product, mixes)
        for value in NO_LISTS:
            self.fails(BadShape, {}, product, [[1, 1], value])

    def test_bad_shape_of_a_product_comes_before_bad_weights(self):
        for mixes in [[[0], []], [[-1], [1] * 5], [[None], None], [[0]] * 4]:
            self.fails(BadShape, {}, product, mixes)

    def test_product_of_lists_that_are_no_mixes(self):
        for wrong in [[0], [0, 0], [-1], [2, -1], [True], [1, False], [None], [1.0], ["1"], [[1]], [(1, 1)]]:
            self.fails(BadWeights, {}, product, [wrong, [1, 2]])
            self.fails(BadWeights, {}, product, [[1, 2], wrong])
            self.fails(BadWeights, {}, product, [wrong])


class BlendedTest(Case):
    def test_blended_by_its_definition(self):
        hints = [skew(), Hint((2, 3, 2), [1] * 12), sure((2, 3, 2), (1, 2, 0)), Hint((2, 3, 2), [0] * 11 + [BIG])]
        for shares in [[1, 1, 1, 1], [3, 0, 5, 2], [0, 0, 1, 0], [7, 1, BIG, 4]]:
            found = blended(hints, shares)
            for cell in order((2, 3, 2)):
                total = sum([share * chance(hint, cell) for hint, share in zip(hints, shares)])
                self.same_value(found[cell], pair(total / sum(shares)))

    def test_units_do_not_count_as_shares(self):
        found = blended([Hint([2], [1, 1]), Hint([2], [1, 99])], [1, 1])
        self.same_value(found.weights(), [51, 149])

    def test_one_hint_and_the_same_hint_twice(self):
        self.assertTrue(blended([small()], [5]) == small())
        self.assertTrue(blended([small(), small()], [1, 6]) == small())

    def test_tuples_names_and_arguments(self):
        hints, shares = [small(), sure((2, 2), (1, 1))], [2, 1]
        found = blended(shares=tuple(shares), hints=tuple(hints))
        self.assertTrue(found == blended(hints, shares))
        self.same_value([len(hints), shares, hints[0].weights()], [2, [2, 1], [2, 1, 1, 0]])

    def test_bad_shares(self):
        hints = [small(), sure((2, 2), (1, 1))]
        wrong = [[], [1], [1, 1, 1], [0, 0], [1, -1], [-1, 2], [1, True], [False, 1], [1, None], [1.0, 1], ["1", 1],
                 [(1, 1)], "11", {0: 1, 1: 1}]
        for shares in wrong + ODD_VALUES:
            self.fails(BadShares, {}, blended, hints, shares)
        self.fails(BadShares, {}, blended, [], [])
        self.fails(BadShares, {}, blended, [], [1])

    def test_bad_shares_come_before_mismatch(self):
        hints = [small(), sure((1, 4), (0, 0))]
        self.fails(BadShares, {}, blended, hints, [1])
        self.fails(BadShares, {}, blended, hints, [0, 0])
        self.fails(Mismatch, {}, blended, hints, [1, 1])

    def test_mismatch_also_with_a_share_of_0(self):
        for other in [Hint([1, 4], [1] * 4), Hint([4, 1], [1] * 4), Hint([4], [1] * 4)]:
            for shares in [[1, 1, 1], [1, 1, 0], [0, 0, 1]]:
                self.fails(Mismatch, {}, blended, [small(), small(), other], shares)
                self.fails(Mismatch, {}, blended, [other, small(), small()], shares)


class MeanTest(Case):
    def test_mean(self):
        numbers = [3, -1, 4, 1, -5, 9, 2, -6, 5, 3, 5, -8]
        wanted = sum([Fraction(weight, 37) * number for weight, number in zip(SKEW, numbers)])
        self.same_value(mean(skew(), numbers), pair(wanted))
        self.same_value(mean(numbers=tuple(numbers), hint=skew()), pair(wanted))
        self.same_value([mean(small(), [0, 0, 0, 9]), mean(small(), [-6, 0, 0, 0]), mean(small(), [BIG] * 4)],
                        [(0, 1), (-3, 1), (BIG, 1)])
        self.same_value(mean(Hint([1], [3]), [-7]), (-7, 1))

    def test_mean_of_what_is_no_integer_for_each_cell(self):
        wrong = [[], [1], [1, 1, 1], [1] * 5, [1, 1, 1, True], [1, 1, 1, None], [1, 1, 1, 1.0], ["1"] * 4, "1111",
                 [[1]] * 4, [[1, 1], [1, 1]], {0: 1, 1: 1, 2: 1, 3: 1}]
        for numbers in wrong + ODD_VALUES:
            self.fails(BadRows, {}, mean, small(), numbers)

    def test_means(self):
        game = two([[(6, 6), (2, 7)], [(7, 2), (0, 0)]])
        self.same_value(means(game, small()), [(21, 4), (21, 4)])
        self.same_value(means(hint=sure((2, 2), (1, 0)), game=game), [(7, 1), (2, 1)])
        game = Game((2, 3, 2), [[index, -index, 1] for index in range(12)])
        total = sum([Fraction(weight, 37) * index for index, weight in enumerate(SKEW)])
        self.same_value(means(game, skew()), [pair(total), pair(-total), (1, 1)])
        self.same_value(means(Game([2], [[3], [4]]), Hint([2], [1, 2])), [(11, 3)])

    def test_means_with_another_shape(self):
        rows = [[1, 2], [3, 4], [5, 6], [7, 8]]
        for shape in [[1, 4], [4, 1]]:
            self.fails(Mismatch, {}, means, Game(shape, rows), small())
        self.fails(Mismatch, {}, means, Game([4], [[1]] * 4), small())


class FollowedTest(Case):
    def test_followed_by_its_definition(self):
        for player, many in enumerate((2, 3, 2)):
            for plan in itertools.product(range(many), repeat=many):
                wanted = {cell: 0 for cell in order((2, 3, 2))}
                for cell, weight in zip(order((2, 3, 2)), SKEW):
                    played = list(cell)
                    played[player] = plan[cell[player]]
                    wanted[tuple(played)] += weight
                found = followed(skew(), player, list(plan))
                self.assertTrue(found == Hint((2, 3, 2), list(wanted.values())))
                self.assertTrue(found == followed(skew(), player, plan))

    def test_a_plan_that_keeps_all_moves(self):
        for player, many in enumerate((2, 3, 2)):
            self.assertTrue(followed(skew(), player, list(range(many))) == skew())
        self.assertTrue(followed(Hint([1], [1]), 0, [0]) == Hint([1], [1]))

    def test_moves_that_are_exchanged_and_lowest_terms(self):
        self.same_value(followed(small(), 1, [1, 0]).weights(), [1, 2, 0, 1])
        self.same_value(followed(Hint([2, 2], [1, 1, 1, 1]), 0, [0, 0]).weights(), [1, 1, 0, 0])

    def test_names_and_arguments(self):
        plan, hint = [1, 1], small()
        found = followed(plan=plan, hint=hint, player=0)
        self.same_value([plan, hint.weights()], [[1, 1], [2, 1, 1, 0]])
        plan[0] = 0
        self.same_value(found.weights(), [0, 0, 3, 1])

    def test_no_player_comes_before_bad_rule(self):
        for player in NO_PLAYERS:
            self.fails(NoPlayer, {"player": player}, followed, small(), player, [0, 1])
            self.fails(NoPlayer, {"player": player}, followed, small(), player, None)

    def test_bad_rules(self):
        wrong = [[], [0], [0, 1, 0], [0, 2], [2, 0], [-1, 0], [0, True], [False, 1], [None, 0], ["0", 1], [0.0, 1],
                 [[0], 1], [(0, 1)], "01", {0: 0, 1: 1}, 0, [0, BIG]]
        for plan in wrong + ODD_VALUES:
            for player in [0, 1]:
                self.fails(BadRule, {"player": player}, followed, small(), player, plan)
        self.fails(BadRule, {"player": 0}, followed, skew(), 0, [0, 2])
        self.fails(BadRule, {"player": 1}, followed, skew(), 1, [0, 1])
        self.fails(BadRule, {"player": 2}, followed, skew(), 2, [0, 1, 1])


if __name__ == "__main__":
    unittest.main()
