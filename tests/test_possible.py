import random
import unittest

from checking import BIG, ODD_VALUES, Case
from everyhint.errors import BadBook, NoCell
from everyhint.games import Game, kept, two
from everyhint.hints import Hint
from everyhint.possible import (balance, barred_by, book_against, book_with, hint_for, is_closed, possible_cells,
                                possible_moves, strict_hint, wide_book, wide_hint)
from sums import (DARE, DILEMMA, GAMES, LARGE_GAMES, SHAPES, SMALL_GAMES, balance_of, barred_cells, bets_of, chances,
                  closed, drawn, equal_payoffs, gain_of, heeded, is_book_of, opposite, order, worse_moves)

WRONG_CELLS = [(0,), (), (0, 0, 0), (2, 0), (0, 2), (-1, 0), (0, -1), [0, 0], (True, 0), (0, False), (0, 1.0),
               (0, None), ([0], 0), "00", 0, (BIG, 0)] + ODD_VALUES
WRONG_BETS = [(0, 0, 0), (0, 1, 1), (2, 0, 1), (-1, 0, 1), (0, 2, 0), (0, 0, 2), (0, -1, 0), (0, 0, -1), (0, 0), (),
              (0, 0, 1, 1), [0, 0, 1], (True, 0, 1), (0, True, 0), (0, 0, True), (0, False, 1), (0, None, 1),
              (None, 0, 1), (0, 0, 1.0), (0.0, 0, 1), ("0", 0, 1), ([0], 0, 1), ((0, 0, 1),), "001",
              {(0, 0, 1): 1}, (BIG, 0, 1), (0, 0, BIG)] + ODD_VALUES
WRONG_BOOKS = [value for value in ODD_VALUES if value != {}]
WRONG_BOOKS += [{bet: 1} for bet in WRONG_BETS if not isinstance(bet, (list, dict, set))
                and not (isinstance(bet, tuple) and any(isinstance(each, (list, dict)) for each in bet))]
WRONG_BOOKS += [{(0, 0, 1): amount} for amount in [0, -1, -BIG, True, False, None, 1.0, "1", (1,), [1], (1, 1)]]
WRONG_BOOKS += [{(0, 0, 1): 1, (0, 1, 0): 0}, {(0, 0, 1): 1, (2, 1, 0): 1}, {(0, 0, 1): True, (0, 1, 0): 1},
                [((0, 0, 1), 1)], ((0, 0, 1), 1), [(0, 0, 1)], {(0, 0, 1)}, (0, 0, 1), "book", 1, 0]


def drawn_book(seed, game):
    chooser = random.Random(f"{seed}")
    book = {bet: chooser.randint(1, 1000) for bet in bets_of(game.shape) if chooser.random() < 0.4}
    keys = list(book)
    chooser.shuffle(keys)
    return {bet: book[bet] for bet in keys}


class ExampleTest(Case):
    def test_examples_of_the_interface(self):
        dare = two([[(6, 6), (2, 7)], [(7, 2), (0, 0)]])
        dilemma = two([[(3, 3), (0, 5)], [(5, 0), (1, 1)]])
        self.same_value(
            [possible_cells(dare), possible_cells(dilemma), possible_moves(dilemma), hint_for(dilemma, (0, 0))],
            [[(0, 0), (0, 1), (1, 0), (1, 1)], [(1, 1)], [[1], [1]], None])
        self.same_value(
            [balance(dilemma, {(0, 0, 1): 1}, (0, 0)), is_closed(dilemma, {(0, 0, 1): 1}),
             barred_by(dilemma, {(0, 0, 1): 1})], [-2, True, [(0, 0), (0, 1)]])
        self.same_value(
            [is_closed(dilemma, wide_book(dilemma)), barred_by(dilemma, wide_book(dilemma)),
             book_against(dare, (1, 1))], [True, [(0, 0), (0, 1), (1, 0)], None])
        self.same_value(
            [strict_hint(dilemma, (0, 0, 1)), (0, 0, 1) in book_with(dilemma, (0, 0, 1)), book_with(dare, (0, 0, 1))],
            [None, True, None])


class CellCase(Case):
    def is_heeded_hint(self, game, hint):
        self.assertIs(type(hint), Hint)
        self.assertEqual(hint.shape, game.shape)
        self.assertTrue(heeded(game, hint))

    def is_closed_book(self, game, book):
        self.assertTrue(is_book_of(game, book), book)
        self.assertTrue(closed(game, book))

    def possible_by_evidence(self, game):
        """The possible cells, of which just one of the two kinds of evidence tells for each cell."""
        found = []
        for cell in order(game.shape):
            hint, book = hint_for(game, cell), book_against(game, cell)
            self.assertIs(hint is None, book is not None)
            if hint is not None:
                self.is_heeded_hint(game, hint)
                self.assertGreater(chances(hint)[cell], 0)
                found.append(cell)
            else:
                self.is_closed_book(game, book)
                self.assertLess(balance_of(game, book, cell), 0)
        return found


class PossibleTest(CellCase):
    def test_all_that_is_said_of_cells(self):
        for game in GAMES:
            found = self.possible_by_evidence(game)
            self.assertGreaterEqual(len(found), 1)
            self.same_value(possible_cells(game), found)
            hint, book = wide_hint(game), wide_book(game)
            self.is_heeded_hint(game, hint)
            self.assertEqual([cell for cell, chance in chances(hint).items() if chance > 0], found)
            self.is_closed_book(game, book)
            self.assertEqual(barred_cells(game, book), [cell for cell in order(game.shape) if cell not in found])
            self.same_value(possible_moves(game), [sorted({cell[player] for cell in found})
                                                   for player in range(game.players)])

    def test_some_games_have_cells_of_both_kinds(self):
        many = [len(game) - len(possible_cells(game)) for game in LARGE_GAMES]
        self.assertGreater(sum([0 < each < 15 for each in many]), 3)

    def test_one_player(self):
        game = Game([4], [[3], [1000], [-1000], [1000]])
        self.same_value([possible_cells(game), possible_moves(game)], [[(1,), (3,)], [[1, 3]]])
        self.same_value(possible_cells(Game([4], [[2], [1], [0], [1]])), [(0,)])

    def test_a_single_cell(self):
        for shape in [(1,), (1, 1), (1, 1, 1)]:
            game = equal_payoffs(shape, -1000)
            cell = (0,) * len(shape)
            self.same_value([possible_cells(game), possible_moves(game), wide_book(game), book_against(game, cell)],
                            [[cell], [[0]] * len(shape), {}, None])
            self.same_value([hint_for(game, cell).weights(), wide_hint(game).weights()], [[1], [1]])

    def test_equal_payoffs_leave_all_cells_possible(self):
        for shape in SHAPES:
            game = equal_payoffs(shape, 1000)
            self.same_value(possible_cells(game), order(shape))
            self.same_value(possible_moves(game), [list(range(many)) for many in shape])
            self.same_value(barred_by(game, wide_book(game)), [])

    def test_moves_that_are_worse_everywhere(self):
        for shape in SHAPES:
            game = worse_moves(shape)
            last = tuple(many - 1 for many in shape)
            self.same_value(possible_cells(game), [last])
            self.same_value(possible_moves(game), [[move] for move in last])
            self.assertEqual(wide_hint(game).weights(), [0] * (len(game) - 1) + [1])

    def test_opposite_payoffs(self):
        pennies = two([[(1000, -1000), (-1000, 1000)], [(-1000, 1000), (1000, -1000)]])
        self.same_value([wide_hint(pennies).weights(), hint_for(pennies, (0, 1)).weights()], [[1, 1, 1, 1]] * 2)
        stone = [[(0, 0), (-1, 1), (1, -1)], [(1, -1), (0, 0), (-1, 1)], [(-1, 1), (1, -1), (0, 0)]]
        self.same_value(wide_hint(two(stone)).weights(), [1] * 9)
        game = two([[(2, -2), (1, -1)], [(3, -3), (4, -4)]])
        self.same_value([possible_cells(game), possible_moves(game)], [[(1, 0)], [[1], [0]]])

    def test_moves_that_are_possible_in_no_common_cell(self):
        game = two([[(1, 1), (0, 0)], [(0, 0), (1, 1)]])
        self.same_value(possible_moves(game), [[0, 1], [0, 1]])
        game = kept(DILEMMA, [[1, 0], [0, 1]])
        self.same_value([possible_cells(game), possible_moves(game)], [[(0, 1)], [[0], [1]]])

    def test_multiples_and_large_numbers(self):
        for game in LARGE_GAMES[:3]:
            self.same_value(possible_cells(game * BIG), possible_cells(game))
        game = drawn(8, (4, 4), 1000) * BIG + drawn(9, (4, 4), 1000)
        self.same_value(possible_cells(game), self.possible_by_evidence(game))

    def test_ends_soon_at_the_limits(self):
        with self.ends_within(60):
            for game in LARGE_GAMES + [opposite(1, (4, 4), 1000), worse_moves((4, 4)), worse_moves((2, 2, 4))]:
                possible_cells(game)
                possible_moves(game)
                wide_hint(game)
                wide_book(game)

    def test_no_cells(self):
        for value in WRONG_CELLS:
            for call in [hint_for, book_against]:
                self.fails(NoCell, {"cell": value}, call, DARE, value)
        for value in [0, (1,), (0, 0)]:
            self.fails(NoCell, {"cell": value}, hint_for, Game([1], [[5]]), value)

    def test_names_arguments_and_new_values(self):
        game = two([[(3, 3), (0, 5)], [(5, 0), (1, 1)]])
        self.same_value([hint_for(cell=(1, 1), game=game).weights(), book_against(cell=(1, 1), game=game)],
                        [[0, 0, 0, 1], None])
        self.same_value([possible_cells(game=game), possible_moves(game=game)], [[(1, 1)], [[1], [1]]])
        first = [wide_hint(game=game).weights(), wide_book(game=game), book_against(game, (0, 0)), possible_moves(game)]
        for found in [wide_book(game), book_against(game, (0, 0)), possible_cells(game), possible_moves(game)[0],
                      possible_moves(game)]:
            found.clear()
        wide_book(DARE)
        again = [wide_hint(game).weights(), wide_book(game), book_against(game, (0, 0)), possible_moves(game)]
        self.same_value(again, first)
        self.same_value([game.payoffs(), possible_cells(game)], [[[3, 3], [0, 5], [5, 0], [1, 1]], [(1, 1)]])


class BalanceTest(CellCase):
    def test_balances_by_their_definition(self):
        for seed, game in enumerate(GAMES):
            for book in [drawn_book(seed, game), {bet: 1 for bet in bets_of(game.shape)}, {}]:
                wanted = [balance_of(game, book, cell) for cell in order(game.shape)]
                self.same_value([balance(game, book, cell) for cell in order(game.shape)], wanted)
                self.assertIs(is_closed(game, book), max(wanted) <= 0)
                self.same_value(barred_by(game, book), barred_cells(game, book))

    def test_an_empty_book(self):
        self.same_value([balance(DARE, {}, (1, 1)), is_closed(DARE, {}), barred_by(DARE, {})], [0, True, []])

    def test_a_book_that_is_not_closed_bars_cells_too(self):
        book = {(0, 0, 1): 1}
        self.same_value([is_closed(DARE, book), barred_by(DARE, book), balance(DARE, book, (0, 1))],
                        [False, [(0, 0)], 2])

    def test_a_balance_of_0_is_no_bar(self):
        game = two([[(1, 0), (2, 0)], [(1, 0), (3, 0)]])
        self.same_value([is_closed(game, {(0, 0, 1): 5}), barred_by(game, {(0, 0, 1): 5})], [True, [(0, 1)]])
        both = {(0, 0, 1): 5, (1, 0, 1): 2}
        self.same_value([balance(game, both, cell) for cell in order((2, 2))], [0, -5, 0, 0])

    def test_large_amounts(self):
        self.same_value(balance(DARE, {(0, 0, 1): BIG, (1, 1, 0): 1}, (0, 1)), 2 * BIG + 1)

    def test_the_order_of_the_keys_makes_no_difference(self):
        for seed, game in enumerate(SMALL_GAMES):
            book = drawn_book(seed, game)
            turned = dict(reversed(list(book.items())))
            for cell in order(game.shape):
                self.same_value(balance(game, turned, cell), balance(game, book, cell))
            self.same_value(barred_by(game, turned), barred_by(game, book))

    def test_bad_books(self):
        for value in WRONG_BOOKS:
            for cell in [(0, 0), (5, 5), None]:
                self.fails(BadBook, {}, balance, DARE, value, cell)
            self.fails(BadBook, {}, is_closed, DARE, value)
            self.fails(BadBook, {}, barred_by, DARE, value)
        self.fails(BadBook, {}, is_closed, DARE, {(1, 0, 2): 1})
        self.assertIs(is_closed(drawn(1, (2, 3), 0), {(1, 0, 2): 1}), True)

    def test_then_no_cells(self):
        for value in WRONG_CELLS:
            for book in [{}, {(0, 0, 1): 1}]:
                self.fails(NoCell, {"cell": value}, balance, DARE, book, value)

    def test_names_and_arguments(self):
        book = {(1, 1, 0): 2, (0, 0, 1): 1}
        self.same_value([balance(cell=(0, 0), book=book, game=DARE), is_closed(book=book, game=DARE),
                         barred_by(book=book, game=DARE)], [-1, False, [(0, 0), (1, 1)]])
        self.same_value(book, {(1, 1, 0): 2, (0, 0, 1): 1})
        barred_by(DARE, book).clear()
        self.same_value(barred_by(DARE, book), [(0, 0), (1, 1)])


class StrictTest(CellCase):
    def test_each_bet_has_one_of_the_two(self):
        counts = [0, 0]
        for game in GAMES:
            for bet in bets_of(game.shape):
                hint, book = strict_hint(game, bet), book_with(game, bet)
                self.assertIs(hint is None, book is not None)
                if hint is not None:
                    self.is_heeded_hint(game, hint)
                    self.assertLess(gain_of(game, hint, *bet), 0)
                else:
                    self.is_closed_book(game, book)
                    self.assertIn(bet, book)
                counts[hint is None] += 1
        self.assertGreater(min(counts), 100)

    def test_equal_payoffs_and_opposite_ones(self):
        for game in [equal_payoffs((2, 2), 5), two([[(1, -1), (-1, 1)], [(-1, 1), (1, -1)]])]:
            for bet in bets_of((2, 2)):
                self.assertIsNone(strict_hint(game, bet))
                self.assertIn(bet, book_with(game, bet))

    def test_one_player(self):
        game = Game([3], [[2], [7], [2]])
        self.assertEqual(strict_hint(game, (0, 1, 0)).weights(), [0, 1, 0])
        self.same_value([strict_hint(game, (0, 0, 1)), book_with(game, (0, 1, 2))], [None, None])
        self.assertIn((0, 0, 2), book_with(game, (0, 0, 2)))

    def test_values_that_are_no_bets(self):
        for value in WRONG_BETS:
            for call in [strict_hint, book_with]:
                self.fails(BadBook, {}, call, DARE, value)

    def test_names_and_new_values(self):
        self.assertIsNone(strict_hint(bet=(0, 0, 1), game=DILEMMA))
        first = book_with(bet=(0, 0, 1), game=DILEMMA)
        wanted = dict(first)
        first.clear()
        strict_hint(DARE, (0, 0, 1))
        self.same_value(book_with(DILEMMA, (0, 0, 1)), wanted)


if __name__ == "__main__":
    unittest.main()
