import itertools
import random
import unittest
from fractions import Fraction
from math import gcd, lcm

from checking import BIG, ODD_VALUES, Case
from everyhint.errors import BadBook, Mismatch, NotClosed
from everyhint.fewer import climbed, full_book, groups, is_elementary, ladder, lifted, reduced
from everyhint.games import Game, opposed, two
from everyhint.goals import best_hint
from everyhint.hints import Hint
from everyhint.possible import book_with, wide_book, wide_hint
from sums import (DARE, DILEMMA, EDGE_GAMES, LARGE_GAMES, SHAPES, SMALL_GAMES, bets_of, chances, closed, drawn,
                  equal_payoffs, heeded, is_book_of, opposite, order, worse_moves)

PENNIES = opposed([[1, -1], [-1, 1]])
CIRCLE = {(0, 0, 1): 1, (0, 1, 0): 1, (1, 0, 1): 1, (1, 1, 0): 1}
STONE = opposed([[0, -1, 1], [1, 0, -1], [-1, 1, 0]])
# Its ladder has five games.
STEPS = two([[(-1, -1), (0, -1), (1, 1), (0, 1)], [(-1, 1), (1, 0), (0, -1), (0, 0)],
             [(-1, -1), (-1, -1), (1, 1), (-1, -1)], [(1, 1), (1, 0), (0, -1), (0, 0)]])
WRONG_BOOKS = [value for value in ODD_VALUES if value != {}]
WRONG_BOOKS += [{(0, 0, 0): 1}, {(2, 0, 1): 1}, {(0, 0, 2): 1}, {(0, -1, 0): 1}, {(0, 0): 1}, {0: 1}, {(0, 0, True): 1},
                {(0, 0, 1): 0}, {(0, 0, 1): -1}, {(0, 0, 1): True}, {(0, 0, 1): 1.0}, {(0, 0, 1): "1"},
                {(0, 0, 1): None}, {**CIRCLE, (1, 0, 0): 1}, {**CIRCLE, (0, 0, 1): 0}, [(0, 0, 1)], [((0, 0, 1), 1)], 1]


def some_book(seed, shape, most):
    """Any book; it is closed in a game with equal payoffs."""
    chooser = random.Random(f"{seed} {shape} {most}")
    odds = chooser.choice([0.2, 0.4, 0.8])
    return {bet: chooser.randint(1, most) for bet in bets_of(shape) if chooser.random() < odds}


def closed_pairs():
    """Games, each with a closed book."""
    found = [(PENNIES, CIRCLE), (DARE, {}), (DILEMMA, {(0, 0, 1): 1}), (DILEMMA, {(0, 0, 1): 1, (1, 0, 1): 1000})]
    for seed, shape in itertools.product(range(6), SHAPES):
        found.append((equal_payoffs(shape, seed), some_book(seed, shape, [1, 3, 1000][seed % 3])))
    games = SMALL_GAMES + LARGE_GAMES + EDGE_GAMES[::5]
    games += [opposite(seed, shape, most) for seed in range(3) for shape in [(2, 3), (3, 3), (4, 4)] for most in [1, 9]]
    for game in games:
        found.extend([(game, full_book(game)), (game, wide_book(game))])
        books = [book_with(game, bet) for bet in bets_of(game.shape)]
        found.extend([(game, book) for book in books[::5] if book])
    return found


PAIRS = closed_pairs()


def moves_ahead(book, player, many):
    """For each move the set of the moves that can be reached by one or more steps."""
    ahead = {move: {other for other in range(many) if (player, move, other) in book} for move in range(many)}
    for middle, one, other in itertools.product(range(many), repeat=3):
        if middle in ahead[one] and other in ahead[middle]:
            ahead[one].add(other)
    return ahead


def resting_sets(book, player, many):
    """The resting groups by point [121]: all sets of moves are tried."""
    ahead = moves_ahead(book, player, many)
    found = []
    for size in range(1, many + 1):
        for moves in itertools.combinations(range(many), size):
            joined = all(other in ahead[one] for one, other in itertools.permutations(moves, 2))
            if joined and not any(ahead[move] - set(moves) for move in moves):
                found.append(list(moves))
    return sorted(found)


def grouped_cells(found, cell):
    """The cells of the given game that come about in a cell of the reduced one, with their chances."""
    spots = [found[player][index] for player, index in enumerate(cell)]
    for moves in itertools.product(*[spot[0] for spot in spots]):
        chance = Fraction(1)
        for move, (names, mix) in zip(moves, spots):
            chance *= Fraction(mix[names.index(move)], sum(mix))
        yield moves, chance


class GroupsTest(Case):
    def test_examples_of_the_interface(self):
        pennies = opposed([[1, -1], [-1, 1]])
        book = {(0, 0, 1): 1, (0, 1, 0): 1, (1, 0, 1): 1, (1, 1, 0): 1}
        self.same_value([groups(pennies, book), reduced(pennies, book) == Game((1, 1), [[0, 0]]),
                         sorted(full_book(pennies)) == sorted(book)],
                        [[[([0, 1], [1, 1])], [([0, 1], [1, 1])]], True, True])
        self.same_value([lifted(pennies, book, Hint((1, 1), [1])).weights(), len(ladder(pennies)),
                         is_elementary(two([[(6, 6), (2, 7)], [(7, 2), (0, 0)]]))], [[1, 1, 1, 1], 2, True])

    def test_groups_and_mixes_by_their_definition(self):
        sizes = {}
        for game, book in PAIRS:
            found = groups(game, book)
            self.assertEqual([type(found), len(found)], [list, game.players])
            for player, many in enumerate(game.shape):
                self.assertEqual([moves for moves, _ in found[player]], resting_sets(book, player, many))
                self.assertGreaterEqual(len(found[player]), 1)
                for group in found[player]:
                    moves, mix = group
                    self.assertEqual([type(group), type(moves), type(mix), len(mix)], [tuple, list, list, len(moves)])
                    self.is_resting_mix(book, player, moves, mix)
                    sizes[len(moves)] = sizes.get(len(moves), 0) + 1
        self.assertGreater(min(sizes[1], sizes[2], sizes[3], sizes[4]), 10)

    def is_resting_mix(self, book, player, moves, mix):
        self.assertEqual([type(each) for each in mix], [int] * len(mix))
        self.assertGreaterEqual(min(mix), 1)
        self.assertEqual(gcd(*mix), 1)
        shares = dict(zip(moves, mix))
        for move in moves:
            out = sum(amount for (each, told, _), amount in book.items() if (each, told) == (player, move))
            come = sum(amount * shares[told] for (each, told, other), amount in book.items()
                       if (each, other) == (player, move) and told in shares)
            self.assertEqual(shares[move] * out, come)

    def test_an_empty_book_leaves_all_moves(self):
        for shape in SHAPES:
            game = drawn(2, shape, 1000)
            self.same_value(groups(game, {}), [[([move], [1]) for move in range(many)] for many in shape])
            self.assertEqual(reduced(game, {}), game)

    def test_circles_and_moves_that_lead_out(self):
        game = equal_payoffs((4, 3), 0)
        self.same_value(groups(game, {(0, 0, 1): 2, (0, 1, 2): 3, (0, 2, 0): 6}),
                        [[([0, 1, 2], [3, 2, 1]), ([3], [1])], [([0], [1]), ([1], [1]), ([2], [1])]])
        # The circle of the moves 0 and 1 leads out to 3, so it does not rest.
        self.same_value(groups(game, {(0, 0, 1): 5, (0, 1, 0): 5, (0, 1, 3): 1, (1, 2, 0): 7, (1, 0, 2): 1}),
                        [[([2], [1]), ([3], [1])], [([0, 2], [7, 1]), ([1], [1])]])
        self.same_value(groups(game, {(0, 0, 3): 1, (0, 3, 1): 1, (0, 1, 2): 1, (0, 2, 1): 4}),
                        [[([1, 2], [4, 1])], [([0], [1]), ([1], [1]), ([2], [1])]])
        # A group that is reached from a lower move stands where its own least move does.
        self.same_value(groups(game, {(0, 0, 2): 1, (0, 2, 3): 1, (0, 3, 2): 1})[0], [([1], [1]), ([2, 3], [1, 1])])
        self.same_value(groups(game, {(0, 3, 0): 1, (0, 0, 3): 1000, (0, 2, 1): 1})[0],
                        [([0, 3], [1, 1000]), ([1], [1])])

    def test_large_amounts(self):
        game = equal_payoffs((3,), 4)
        found = groups(game, {(0, 0, 1): BIG, (0, 1, 0): BIG - 1, (0, 1, 2): 1, (0, 2, 0): 2})
        self.is_resting_mix({(0, 0, 1): BIG, (0, 1, 0): BIG - 1, (0, 1, 2): 1, (0, 2, 0): 2}, 0, *found[0][0])

    def test_the_order_of_the_keys_makes_no_difference(self):
        for game, book in PAIRS[::4]:
            turned = dict(reversed(list(book.items())))
            self.same_value(groups(game, turned), groups(game, book))
            self.assertEqual(reduced(game, turned), reduced(game, book))

    def test_errors(self):
        calls = [(groups, []), (reduced, []), (lifted, [Hint((1, 1), [1])]), (lifted, [Hint((3,), [1, 1, 1])])]
        for call, more in calls:
            for book in WRONG_BOOKS:
                self.fails(BadBook, {}, call, PENNIES, book, *more)
            self.fails(NotClosed, {"cell": (0, 1)}, call, DARE, {(0, 0, 1): 1}, *more)
            self.fails(NotClosed, {"cell": (1, 0)}, call, DARE, {(0, 1, 0): 1}, *more)
            self.fails(NotClosed, {"cell": (0, 1)}, call, DILEMMA, {(1, 1, 0): 1}, *more)
            self.fails(NotClosed, {"cell": (0, 0)}, call, PENNIES, {(0, 0, 1): 1}, *more)
            self.fails(NotClosed, {"cell": (0, 0)}, call, PENNIES, {**CIRCLE, (0, 0, 1): 2}, *more)

    def test_names_arguments_and_new_values(self):
        book = dict(CIRCLE)
        self.same_value(groups(book=book, game=PENNIES), [[([0, 1], [1, 1])]] * 2)
        found = groups(PENNIES, book)
        found[0][0][0].clear()
        found[0][0][1].clear()
        found[1].clear()
        groups(DARE, {})
        self.same_value([groups(PENNIES, book), book], [[[([0, 1], [1, 1])]] * 2, CIRCLE])


class ReducedTest(Case):
    def test_payoffs_by_their_definition(self):
        for game, book in PAIRS:
            found = groups(game, book)
            shape = tuple(len(each) for each in found)
            rows = [[sum(chance * game[moves][player] for moves, chance in grouped_cells(found, cell))
                     for player in range(game.players)] for cell in order(shape)]
            unit = lcm(*[each.denominator for row in rows for each in row])
            wanted = [[int(each * unit) for each in row] for row in rows]
            self.same_value([reduced(game, book).shape, reduced(game, book).payoffs()], [shape, wanted])

    def test_one_factor_for_all_payoffs(self):
        game = Game((2, 2), [[1, 3], [1, 3], [2, 3], [2, 3]])
        # The payoffs of player 1 do not depend on their own move, so any book of this player is closed.
        self.same_value(reduced(game, {(1, 0, 1): 1, (1, 1, 0): 1}).payoffs(), [[1, 3], [2, 3]])
        game = Game((2, 2), [[1, 3], [2, 3], [2, 0], [7, 0]])
        self.same_value(reduced(game, {(1, 0, 1): 1, (1, 1, 0): 1}).payoffs(), [[3, 6], [9, 0]])
        self.same_value(reduced(game, {(1, 0, 1): 1, (1, 1, 0): 4}).payoffs(), [[6, 15], [15, 0]])
        # No common divisor is taken out.
        self.same_value(reduced(Game((2,), [[6], [6]]), {(0, 0, 1): 1}).payoffs(), [[6]])

    def test_moves_that_lead_on_are_gone(self):
        self.same_value(reduced(DILEMMA, {(0, 0, 1): 1}).payoffs(), [[5, 0], [1, 1]])
        self.same_value(reduced(DILEMMA, {(0, 0, 1): 1, (1, 0, 1): 9}).payoffs(), [[1, 1]])
        self.assertEqual(reduced(book=CIRCLE, game=PENNIES), Game((1, 1), [[0, 0]]))


class LiftedTest(Case):
    def test_hints_by_their_definition(self):
        chooser = random.Random(122)
        for game, book in PAIRS:
            found = groups(game, book)
            shape = tuple(len(each) for each in found)
            for weights in [[chooser.randint(0, 3) for _ in order(shape)[1:]] + [1], [1] * len(order(shape))]:
                hint = Hint(shape, weights)
                wanted = {cell: Fraction(0) for cell in order(game.shape)}
                for cell, chance in chances(hint).items():
                    for moves, share in grouped_cells(found, cell):
                        wanted[moves] += chance * share
                told = lifted(game, book, hint)
                self.assertEqual([type(told), told.shape], [Hint, game.shape])
                self.assertEqual(chances(told), wanted)

    def test_heeded_hints_are_lifted_to_heeded_ones(self):
        chooser = random.Random(123)
        for game, book in PAIRS:
            small = reduced(game, book)
            for hint in [wide_hint(small), best_hint(small, [chooser.randint(-9, 9) for _ in small])]:
                self.assertTrue(heeded(game, lifted(game, book, hint)))

    def test_mismatch(self):
        for hint in [Hint((2, 2), [1, 0, 0, 1]), Hint((1,), [1]), Hint((1, 1, 1), [1]), Hint((1, 2), [1, 1])]:
            self.fails(Mismatch, {}, lifted, PENNIES, CIRCLE, hint)
        self.fails(Mismatch, {}, lifted, DILEMMA, {(0, 0, 1): 1}, Hint((2, 2), [1, 0, 0, 1]))

    def test_names(self):
        self.same_value(lifted(hint=Hint((1, 2), [3, 1]), book={(0, 0, 1): 1}, game=DILEMMA).weights(), [0, 0, 3, 1])


class LadderTest(Case):
    GAMES = (SMALL_GAMES + LARGE_GAMES + EDGE_GAMES + [STEPS, STONE, PENNIES]
             + [opposite(seed, shape, most) for seed in range(4) for shape in [(2, 3), (3, 3), (4, 4)] for most in [1, 9]])

    def test_full_books_have_each_bet_of_a_closed_book(self):
        elementary = 0
        for game in self.GAMES:
            book = full_book(game)
            self.assertTrue(is_book_of(game, book))
            self.assertTrue(closed(game, book))
            self.assertEqual(sorted(book), [bet for bet in bets_of(game.shape) if book_with(game, bet) is not None])
            self.assertIs(is_elementary(game), book == {})
            elementary += not book
        self.assertGreater(elementary, 5)

    def test_edges(self):
        for shape in SHAPES:
            game = equal_payoffs(shape, 1000)
            self.same_value([sorted(full_book(game)), len(ladder(game))], [bets_of(shape), 1 + (max(shape) > 1)])
            self.assertEqual(ladder(game)[-1][0].shape, (1,) * len(shape))
            self.assertEqual(ladder(worse_moves(shape))[-1][0].shape, (1,) * len(shape))
        for shape in [(1,), (1, 1), (1, 1, 1)]:
            game = drawn(1, shape, 1000)
            self.same_value([full_book(game), is_elementary(game), ladder(game)[0][1], ladder(game)[0][0] == game,
                             climbed(game, Hint(shape, [3])).weights()], [{}, True, {}, True, [1]])
        self.same_value([is_elementary(DARE), is_elementary(DILEMMA), is_elementary(PENNIES)], [True, False, False])

    def test_ladders_step_by_step(self):
        lengths = {}
        for game in self.GAMES:
            steps = ladder(game)
            self.assertEqual([type(steps)] + [type(step) for step in steps], [list] + [tuple] * len(steps))
            self.assertEqual(steps[0][0], game)
            for above, book in steps:
                self.same_value(book, full_book(above))
            for (above, book), (below, _) in zip(steps, steps[1:]):
                self.assertNotEqual(book, {})
                self.assertEqual(below, reduced(above, book))
                self.assertLess(sum(below.shape), sum(above.shape))
            self.same_value([steps[-1][1], is_elementary(steps[-1][0])], [{}, True])
            lengths[len(steps)] = lengths.get(len(steps), 0) + 1
        self.assertGreater(min(lengths[1], lengths[2], lengths[3]), 1)

    def test_climbed_step_by_step(self):
        chooser = random.Random(123)
        for game in self.GAMES:
            steps = ladder(game)
            last = steps[-1][0]
            for hint in [wide_hint(last), Hint(last.shape, [chooser.randint(0, 3) for _ in list(last)[1:]] + [1])]:
                wanted = hint
                for above, book in reversed(steps[:-1]):
                    wanted = lifted(above, book, wanted)
                self.assertEqual(climbed(game, hint), wanted)
                self.assertEqual(wanted.shape, game.shape)
            self.assertTrue(heeded(game, climbed(game, wide_hint(last))))

    def test_a_ladder_of_several_steps(self):
        self.same_value([above.shape for above, _ in ladder(STEPS)], [(4, 4), (2, 3), (2, 2), (1, 2), (1, 1)])
        self.same_value([climbed(STONE, Hint((1, 1), [5])).weights(), climbed(DARE, Hint((2, 2), [1, 2, 3, 4])).weights()],
                        [[1] * 9, [1, 2, 3, 4]])
        self.same_value(climbed(DILEMMA, Hint((1, 1), [5])).weights(), [0, 0, 0, 1])

    def test_ends_soon_at_the_limits(self):
        with self.ends_within(60):
            for game in LARGE_GAMES + [opposite(seed, (4, 4), 1000) for seed in range(5)]:
                climbed(game, wide_hint(ladder(game)[-1][0]))

    def test_mismatch(self):
        for game, hint in [(STONE, Hint((3, 3), [1] * 9)), (STONE, Hint((1,), [1])), (DARE, Hint((1, 1), [1])),
                           (DARE, Hint((4,), [1, 1, 1, 1])), (DILEMMA, Hint((2, 2), [0, 0, 0, 1]))]:
            self.fails(Mismatch, {}, climbed, game, hint)

    def test_names_arguments_and_new_values(self):
        self.same_value([is_elementary(game=DARE), climbed(hint=Hint((1, 1), [2]), game=PENNIES).weights()],
                        [True, [1, 1, 1, 1]])
        wanted = [full_book(game=PENNIES), repr([book for _, book in ladder(game=PENNIES)])]
        full_book(PENNIES).clear()
        found = ladder(PENNIES)
        found[0][1].clear()
        found.clear()
        ladder(STEPS)
        self.same_value([full_book(PENNIES), repr([book for _, book in ladder(PENNIES)])], wanted)
        self.same_value(PENNIES.payoffs(), [[1, -1], [-1, 1], [-1, 1], [1, -1]])


if __name__ == "__main__":
    unittest.main()
