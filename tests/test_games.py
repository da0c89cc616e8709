import itertools
import unittest

from checking import BAD_SHAPES, BIG, GOOD_SHAPES, NO_LISTS, ODD_VALUES, Case
from everyhint.errors import BadBook, BadMoves, BadPayoffs, BadRows, BadShape, Mismatch, NoCell
from everyhint.games import Game, balance_row, bets, cells, kept, opposed, two
from everyhint.hints import Hint


def dare():
    return two([[(6, 6), (2, 7)], [(7, 2), (0, 0)]])


def wide():
    """A game of three players with 12 cells and payoffs that are all different."""
    return Game((2, 3, 2), [[index, 100 - index * index, 7 * index - 300] for index in range(12)])


class CellsTest(Case):
    def test_cells_are_in_ascending_order(self):
        for shape in GOOD_SHAPES:
            wanted = list(itertools.product(*[range(many) for many in shape]))
            self.same_value(cells(shape), wanted)
            self.same_value(cells(tuple(shape)), wanted)

    def test_single_cell_one_player_and_16_cells(self):
        self.same_value([cells([1]), cells([1, 1, 1]), cells([3])], [[(0,)], [(0, 0, 0)], [(0,), (1,), (2,)]])
        for shape in [[4, 4], [4, 4, 1], [1, 4, 4], [2, 2, 4], [4, 2, 2]]:
            self.assertEqual(len(cells(shape)), 16)

    def test_bad_shapes(self):
        for shape in BAD_SHAPES:
            self.fails(BadShape, {}, cells, shape)

    def test_parameter_name_and_new_lists(self):
        self.same_value(cells(shape=[1, 2]), [(0, 0), (0, 1)])
        cells([1, 2]).append(1)
        self.same_value(cells([1, 2]), [(0, 0), (0, 1)])


class GameTest(Case):
    def test_examples_of_the_interface(self):
        game = dare()
        self.same_value(
            [game.shape, game.players, len(game), game[(0, 1)], list(game), (1, 2) in game],
            [(2, 2), 2, 4, (2, 7), [(0, 0), (0, 1), (1, 0), (1, 1)], False])
        self.same_value(
            [(game + game).payoffs(), (-game)[(1, 0)], (game * 3)[(1, 0)], kept(game, [[1], [0, 1]]).payoffs()],
            [[[12, 12], [4, 14], [14, 4], [0, 0]], (-7, -2), (21, 6), [[7, 2], [0, 0]]])
        self.same_value(
            [bets(game), balance_row(game, (0, 0, 1)), opposed([[1, -1], [-1, 1]])[(0, 0)]],
            [[(0, 0, 1), (0, 1, 0), (1, 0, 1), (1, 1, 0)], [-1, 2, 0, 0], (1, -1)])

    def test_all_shapes(self):
        for shape in GOOD_SHAPES:
            order = list(itertools.product(*[range(many) for many in shape]))
            rows = [[index * 10 + player for player in range(len(shape))] for index in range(len(order))]
            game = Game(shape, rows)
            self.same_value([game.shape, game.players, len(game)], [tuple(shape), len(shape), len(order)])
            self.same_value([list(game), [game[cell] for cell in game]], [order, [tuple(row) for row in rows]])
            self.same_value(game.payoffs(), rows)

    def test_large_payoffs(self):
        game = Game([1, 2], [[BIG, -BIG], [0, BIG]])
        self.same_value([game[0, 0], (game + game)[0, 0], (game * BIG)[0, 1]],
                        [(BIG, -BIG), (2 * BIG, -2 * BIG), (0, BIG * BIG)])

    def test_tuples_do_as_well_as_lists(self):
        one = Game([1, 2], [[1, 2], [3, 4]])
        other = Game((1, 2), ((1, 2), (3, 4)))
        self.assertTrue(one == other)
        self.same_value([one.shape, one.payoffs(), one[0, 1]], [other.shape, other.payoffs(), other[0, 1]])

    def test_parameter_names(self):
        self.same_value(Game(payoffs=[[1], [2]], shape=[2]).payoffs(), [[1], [2]])

    def test_bad_shapes_come_before_bad_payoffs(self):
        for shape in BAD_SHAPES:
            self.fails(BadShape, {}, Game, shape, [[1, 2]] * 4)
            self.fails(BadShape, {}, Game, shape, None)

    def test_missing_rows(self):
        for many in range(4):
            self.fails(BadPayoffs, {"index": many}, Game, [2, 2], [[1, 2]] * many)
        self.fails(BadPayoffs, {"index": 15}, Game, [4, 4], [[1, 2]] * 15)
        self.fails(BadPayoffs, {"index": 0}, Game, [1], [])

    def test_too_many_rows(self):
        self.fails(BadPayoffs, {"index": 4}, Game, [2, 2], [[1, 2]] * 5)
        self.fails(BadPayoffs, {"index": 4}, Game, [2, 2], [[1, 2]] * 7)
        self.fails(BadPayoffs, {"index": 1}, Game, [1], [[1], None])
        self.fails(BadPayoffs, {"index": 16}, Game, [4, 4], [[1, 2]] * 17)

    def test_wrong_rows(self):
        odd = [[], [1], [1, 2, 3], [1, None], [True, 1], [1, False], [1.0, 2], ["1", 2], [[1], 2], [[1, 2]], "12",
               {1: 2, 3: 4}, {1, 2}, (1,), (1, True), 12] + ODD_VALUES
        for value in odd:
            for index in range(4):
                rows = [[1, 2], [3, 4], [5, 6], [7, 8]]
                rows[index] = value
                self.fails(BadPayoffs, {"index": index}, Game, [2, 2], rows)

    def test_the_first_wrong_index_counts(self):
        self.fails(BadPayoffs, {"index": 1}, Game, [2, 2], [[1, 2], [1], None, [1, 2]])
        self.fails(BadPayoffs, {"index": 2}, Game, [2, 2], [[1, 2], [1, 2], [True, 1]])
        self.fails(BadPayoffs, {"index": 0}, Game, [2, 2], [[1], [1, 2], [1, 2], [1, 2], [1, 2]])
        self.fails(BadPayoffs, {"index": 3}, Game, [2, 2], [[1, 2], [1, 2], [1, 2], 5, [1, 2]])

    def test_payoffs_that_are_no_list(self):
        for value in ODD_VALUES + ["abcd", {0: [1, 2], 1: [1, 2]}, dare()]:
            self.fails(BadPayoffs, {"index": 0}, Game, [2, 2], value)

    def test_rows_are_copied(self):
        shape, rows = [1, 2], [[1, 2], [3, 4]]
        game = Game(shape, rows)
        self.same_value([shape, rows], [[1, 2], [[1, 2], [3, 4]]])
        shape[0] = 2
        rows[0][0] = 9
        rows.append([5, 6])
        self.same_value([game.shape, game.payoffs(), game[0, 0], len(game)], [(1, 2), [[1, 2], [3, 4]], (1, 2), 2])

    def test_returned_lists_may_be_changed(self):
        game = dare()
        rows = game.payoffs()
        rows[0][0] = 99
        rows.pop()
        order = list(game)
        order.pop()
        self.same_value([game.payoffs(), list(game)],
                        [[[6, 6], [2, 7], [7, 2], [0, 0]], [(0, 0), (0, 1), (1, 0), (1, 1)]])

    def test_iterations_side_by_side(self):
        game = dare()
        self.assertEqual([(one, other) for one in game for other in game], list(itertools.product(game, game)))


class CellOfGameTest(Case):
    NO_CELLS = [(0,), (), (0, 0, 0), (2, 0), (0, 2), (-1, 0), (0, -1), [0, 0], [0, 1], (True, 0), (0, False),
                (0, 1.0), (0, "0"), (0, None), ((0, 0),), ((0, 0), (0, 0)), ([0], 0), (0, {}), "00", 0, 1, -1, BIG,
                (BIG, 0)] + ODD_VALUES

    def test_no_cells(self):
        game = dare()
        for value in self.NO_CELLS:
            self.assertIs(value in game, False)
            with self.assertRaises(NoCell) as caught:
                game[value]
            self.assertIs(caught.exception.cell, value)

    def test_cells(self):
        game = wide()
        for index, cell in enumerate(itertools.product(range(2), range(3), range(2))):
            self.assertIs(cell in game, True)
            self.same_value(game[cell], (index, 100 - index * index, 7 * index - 300))

    def test_game_with_one_player(self):
        game = Game([3], [[5], [6], [7]])
        self.same_value([game[(2,)], (2,) in game, (3,) in game, 2 in game], [(7,), True, False, False])
        self.fails(NoCell, {"cell": 2}, lambda: game[2])


class EqualityTest(Case):
    def test_equal_games(self):
        self.assertIs(dare() == dare(), True)
        self.assertIs(dare() != dare(), False)
        self.assertIs(dare() == Game((2, 2), [[6, 6], [2, 7], [7, 2], [0, 0]]), True)

    def test_other_payoffs(self):
        self.assertIs(dare() == two([[(6, 6), (2, 7)], [(7, 2), (0, 1)]]), False)
        self.assertIs(dare() != two([[(6, 6), (2, 7)], [(7, 3), (0, 0)]]), True)

    def test_other_shapes_with_the_same_rows(self):
        rows = [[1, 2], [3, 4], [5, 6], [7, 8]]
        games = [Game(shape, rows) for shape in [[2, 2], [1, 4], [4, 1]]]
        for one in range(3):
            for other in range(3):
                self.assertIs(games[one] == games[other], one == other)

    def test_values_of_other_classes(self):
        class Anything:
            def __eq__(self, other):
                return True

        values = ODD_VALUES + [dare().payoffs(), (2, 2), Hint([2, 2], [1, 1, 1, 1]), Anything()]
        for value in values:
            self.assertIs(dare() == value, False)
            self.assertIs(dare() != value, True)


class OperatorsTest(Case):
    def test_sum(self):
        one, other = dare(), two([[(1, -2), (3, 0)], [(-7, 5), (0, 1)]])
        self.same_value((one + other).payoffs(), [[7, 4], [5, 7], [0, 7], [0, 1]])
        self.assertTrue(one + other == other + one)
        self.same_value([one.payoffs(), other.payoffs()],
                        [dare().payoffs(), [[1, -2], [3, 0], [-7, 5], [0, 1]]])

    def test_sum_of_three_players(self):
        total = wide() + wide() * -1
        self.same_value([total.shape, total.payoffs()], [(2, 3, 2), [[0, 0, 0]] * 12])

    def test_sum_with_another_shape(self):
        rows = [[1, 2], [3, 4], [5, 6], [7, 8]]
        for shape in [[1, 4], [4, 1]]:
            self.fails(Mismatch, {}, lambda: dare() + Game(shape, rows))
            self.fails(Mismatch, {}, lambda: Game(shape, rows) + dare())
        self.fails(Mismatch, {}, lambda: dare() + Game([2], [[1], [2]]))

    def test_negative(self):
        game = dare()
        self.same_value((-game).payoffs(), [[-6, -6], [-2, -7], [-7, -2], [0, 0]])
        self.assertTrue(-(-game) == game)
        self.same_value(game.payoffs(), dare().payoffs())

    def test_multiples(self):
        game = dare()
        self.same_value((game * 3).payoffs(), [[18, 18], [6, 21], [21, 6], [0, 0]])
        self.same_value((game * -2).payoffs(), [[-12, -12], [-4, -14], [-14, -4], [0, 0]])
        self.same_value((game * 0).payoffs(), [[0, 0]] * 4)
        self.same_value((game * BIG)[0, 1], (2 * BIG, 7 * BIG))
        self.assertTrue(game * 1 == game)
        self.same_value(game.payoffs(), dare().payoffs())


class TwoTest(Case):
    def test_two(self):
        game = two([[(1, 2), (3, 4), (5, 6)], [(7, 8), (9, 10), (11, 12)]])
        self.same_value([game.shape, game.payoffs()],
                        [(2, 3), [[1, 2], [3, 4], [5, 6], [7, 8], [9, 10], [11, 12]]])
        self.same_value(two(rows=(((-1, BIG),),)).payoffs(), [[-1, BIG]])

    def test_opposed(self):
        game = opposed([[1, -2], [0, 4], [5, -BIG]])
        self.same_value([game.shape, game.payoffs()],
                        [(3, 2), [[1, -1], [-2, 2], [0, 0], [4, -4], [5, -5], [-BIG, BIG]]])
        self.same_value(opposed(rows=((7,),)).payoffs(), [[7, -7]])

    def test_up_to_four_moves_each(self):
        for rows in range(1, 5):
            for columns in range(1, 5):
                self.same_value(opposed([[3] * columns] * rows).shape, (rows, columns))
                self.same_value(two([[(3, 4)] * columns] * rows).shape, (rows, columns))

    def test_wrong_tables(self):
        for make, item in [(two, (1, 2)), (opposed, 1)]:
            wrong = [[], (), [[]], [[], []], [[item] * 5], [[item]] * 5, [[item], [item, item]], [[item, item], [item]],
                     [[item], []], [[], [item]], [item], item, [[item], None], [[item], "a"], [[item], {0: item}]]
            for rows in wrong + ODD_VALUES:
                self.fails(BadRows, {}, make, rows)
            for value in ODD_VALUES:
                self.fails(BadRows, {}, make, [[item], value])

    def test_wrong_items_of_two(self):
        wrong = [(1,), (1, 2, 3), (), [1, 2], (1, True), (False, 1), (1, None), (1.0, 2), ("1", 2), ((1, 2),), 1, "12"]
        for item in wrong + ODD_VALUES:
            self.fails(BadRows, {}, two, [[(1, 2), item], [(1, 2), (1, 2)]])
            self.fails(BadRows, {}, two, [[(1, 2), (1, 2)], [(1, 2), item]])

    def test_wrong_items_of_opposed(self):
        for item in [(1, 2), (1,), [1], "1", 1.0] + ODD_VALUES:
            self.fails(BadRows, {}, opposed, [[1, item], [1, 1]])
            self.fails(BadRows, {}, opposed, [[1, 1], [1, item]])

    def test_rows_are_copied_and_stay_as_they_are(self):
        rows = [[(1, 2)], [(3, 4)]]
        game = two(rows)
        self.same_value(rows, [[(1, 2)], [(3, 4)]])
        rows[0][0] = (9, 9)
        rows.append([(5, 6)])
        self.same_value(game.payoffs(), [[1, 2], [3, 4]])
        table = [[1, 2]]
        game = opposed(table)
        table[0][0] = 9
        self.same_value(game.payoffs(), [[1, -1], [2, -2]])


class KeptTest(Case):
    def test_some_moves_in_another_order(self):
        game = kept(wide(), [[1], [2, 0], [1, 0]])
        self.same_value(game.shape, (1, 2, 2))
        self.same_value(list(wide()[1, b, c] for b in [2, 0] for c in [1, 0]), [game[cell] for cell in game])

    def test_all_moves(self):
        self.assertTrue(kept(wide(), [[0, 1], [0, 1, 2], [0, 1]]) == wide())
        self.same_value(kept(dare(), [[1, 0], [0, 1]]).payoffs(), [[7, 2], [0, 0], [6, 6], [2, 7]])

    def test_one_player_and_a_single_cell(self):
        game = Game([4], [[5], [6], [7], [8]])
        self.same_value(kept(game, [[3, 1]]).payoffs(), [[8], [6]])
        self.same_value(kept(game, [[2]]).payoffs(), [[7]])

    def test_lists_for_other_players(self):
        for moves in [[], [[0]], [[0], [0], [0]], [[0], None], [0, [0]], [[0], 1], [[0], "0"], [[0], {0: 0}], "ab"]:
            self.fails(Mismatch, {}, kept, dare(), moves)
        for value in ODD_VALUES:
            self.fails(Mismatch, {}, kept, dare(), value)
        for value in NO_LISTS:
            self.fails(Mismatch, {}, kept, dare(), [[0], value])

    def test_mismatch_comes_before_bad_moves(self):
        for moves in [[[]], [[7], [], [0]], [[], None], [[9], 0]]:
            self.fails(Mismatch, {}, kept, dare(), moves)

    def test_bad_moves(self):
        for chosen in [[], (), [2], [-1], [0, 2], [0, 0], [0, 1, 0], [True], [0, True], [False], [None], ["0"], [0.0],
                       [[0]], [(0,)], [{}], [BIG]]:
            self.fails(BadMoves, {"player": 0}, kept, dare(), [chosen, [0]])
            self.fails(BadMoves, {"player": 1}, kept, dare(), [[0], chosen])

    def test_the_first_player_with_bad_moves_counts(self):
        self.fails(BadMoves, {"player": 0}, kept, wide(), [[], [5], [0, 0]])
        self.fails(BadMoves, {"player": 1}, kept, wide(), [[0], [0, 0], []])
        self.fails(BadMoves, {"player": 2}, kept, wide(), [[0], [2], [2]])

    def test_tuples_parameter_names_and_arguments(self):
        moves = [[1], [0, 1]]
        game = kept(moves=moves, game=dare())
        self.same_value(moves, [[1], [0, 1]])
        self.assertTrue(game == kept(dare(), ((1,), (0, 1))))
        moves[0][0] = 0
        self.same_value(game.payoffs(), [[7, 2], [0, 0]])


class BetsTest(Case):
    def test_bets_are_in_ascending_order(self):
        for shape in GOOD_SHAPES:
            game = Game(shape, [[0] * len(shape)] * len(cells(shape)))
            wanted = [(player, told, other) for player in range(len(shape))
                      for told in range(shape[player]) for other in range(shape[player]) if told != other]
            self.same_value(bets(game), wanted)
            self.assertEqual(bets(game), sorted(wanted))

    def test_no_bets_where_each_player_has_one_move(self):
        self.same_value([bets(Game([1], [[5]])), bets(Game([1, 1, 1], [[1, 2, 3]]))], [[], []])

    def test_new_list_and_parameter_name(self):
        game = dare()
        bets(game).clear()
        self.assertEqual(len(bets(game=game)), 4)

    def test_balance_rows_by_their_definition(self):
        game = wide()
        for bet in bets(game):
            player, told, other = bet
            wanted = []
            for cell in itertools.product(range(2), range(3), range(2)):
                instead = list(cell)
                instead[player] = other
                difference = game[cell][player] - game[tuple(instead)][player]
                wanted.append(difference if cell[player] == told else 0)
            self.same_value(balance_row(game, bet), wanted)

    def test_balance_rows(self):
        self.same_value([balance_row(dare(), bet) for bet in bets(dare())],
                        [[-1, 2, 0, 0], [0, 0, 1, -2], [-1, 0, 2, 0], [0, 1, 0, -2]])
        self.same_value(balance_row(Game([3], [[5], [BIG], [-1]]), (0, 1, 2)), [0, BIG + 1, 0])

    def test_balance_row_is_new_and_takes_its_parameters_by_name(self):
        game = dare()
        balance_row(game, (0, 0, 1)).clear()
        self.same_value(balance_row(bet=(0, 0, 1), game=game), [-1, 2, 0, 0])

    def test_values_that_are_no_bets(self):
        wrong = [(0, 0, 0), (0, 1, 1), (2, 0, 1), (-1, 0, 1), (0, 2, 0), (0, 0, 2), (0, -1, 0), (0, 0, -1), (0, 0), (),
                 (0, 0, 1, 1), [0, 0, 1], (True, 0, 1), (0, True, 0), (0, 0, True), (0, False, 1), (0, None, 1),
                 (None, 0, 1), (0, 0, 1.0), (0.0, 0, 1), ("0", 0, 1), ([0], 0, 1), ({}, {}, {}), ((0, 0, 1),), "001",
                 {(0, 0, 1): 1}, (BIG, 0, 1), (0, 0, BIG)]
        for value in wrong + ODD_VALUES:
            self.fails(BadBook, {}, balance_row, dare(), value)


if __name__ == "__main__":
    unittest.main()
