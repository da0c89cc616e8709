import random
import unittest

from checking import BIG, ODD_VALUES, Case
from everyhint.compared import groups_same, hint_between, implies, multipliers, same_hints, shows_implied
from everyhint.errors import Mismatch
from everyhint.games import Game, two
from everyhint.hints import Hint
from sums import (DARE, DILEMMA, EDGE_GAMES, GAMES, LARGE_GAMES, SHAPES, SMALL_GAMES, balance_of, bets_of, drawn,
                  equal_payoffs, heeded, is_book_of, order, worse_moves)

OTHER = two([[(1, 2), (0, 4)], [(2, 9), (-2, 5)]])
DULL = equal_payoffs((2, 2), 3)


def with_amounts(game, seed):
    """The game with amounts added to each player's payoffs that do not depend on this player's own move."""
    chooser = random.Random(f"{seed}")
    amounts = {}
    rows = []
    for cell in order(game.shape):
        keys = [(player,) + cell[:player] + cell[player + 1:] for player in range(game.players)]
        rows.append([payoff + amounts.setdefault(key, chooser.randint(-1000, 1000))
                     for key, payoff in zip(keys, game[cell])])
    return Game(game.shape, rows)


def with_factors(game, factors):
    """The game with all payoffs of each player multiplied by a factor of this player."""
    return Game(game.shape, [[payoff * factor for payoff, factor in zip(row, factors)] for row in game.payoffs()])


def pairs():
    """Games of the same shape, of which the first one implies the second one or not."""
    found = [(DARE, OTHER), (OTHER, DARE), (DARE, -DARE), (DARE, DULL), (DULL, DARE), (DILEMMA, DARE), (DARE, DILEMMA)]
    for seed, game in enumerate(SMALL_GAMES + LARGE_GAMES):
        found.append((game, drawn(seed + 100, game.shape, 3)))
        found.append((game, game + drawn(seed + 200, game.shape, 1)))
        found.append((game, with_amounts(game, seed)))
    for game in EDGE_GAMES[::4]:
        found.append((game, drawn(1, game.shape, 2)))
        found.append((drawn(2, game.shape, 2), game))
    for seed, shape in enumerate(SHAPES):
        found.append((worse_moves(shape), drawn(seed, shape, 1) + worse_moves(shape) * 2))
        found.append((drawn(seed, shape, 1) + worse_moves(shape) * 2, worse_moves(shape)))
    return found


PAIRS = pairs()


def is_paper(one, other, paper):
    """Whether a dict is as point [91] says."""
    if set(paper) != set(bets_of(other.shape)):
        return False
    for bet, (scale, book) in paper.items():
        if type(scale) is not int or scale < 1 or not is_book_of(one, book):
            return False
        for cell in order(one.shape):
            if scale * balance_of(other, {bet: 1}, cell) < balance_of(one, book, cell):
                return False
    return True


class ImpliesTest(Case):
    def test_examples_of_the_interface(self):
        game = two([[(6, 6), (2, 7)], [(7, 2), (0, 0)]])
        other = two([[(1, 2), (0, 4)], [(2, 9), (-2, 5)]])
        opposite_game = -game
        self.same_value([same_hints(game, other), implies(game, opposite_game), multipliers(game, opposite_game)],
                        [True, False, None])
        self.assertTrue(heeded(game, hint_between(game, opposite_game)))
        paper = multipliers(game, other)
        self.same_value([shows_implied(game, other, paper), len(paper),
                         groups_same([game, opposite_game, other, game * 3])], [True, 4, [[0, 2, 3], [1]]])

    def test_just_one_kind_of_evidence(self):
        counts = {True: 0, False: 0}
        for one, other in PAIRS:
            hint, paper = hint_between(one, other), multipliers(one, other)
            self.assertIs(hint is None, paper is not None)
            self.assertIs(implies(one, other), hint is None)
            if hint is not None:
                self.assertEqual([type(hint), hint.shape], [Hint, one.shape])
                self.assertTrue(heeded(one, hint))
                self.assertFalse(heeded(other, hint))
            else:
                self.assertIs(type(paper), dict)
                self.assertEqual([type(told) for told in paper.values()], [tuple] * len(paper))
                self.assertTrue(is_paper(one, other, paper))
                self.assertIs(shows_implied(one, other, paper), True)
            counts[hint is None] += 1
        self.assertGreater(min(counts.values()), 40)

    def test_both_ways_one_way_and_not_at_all(self):
        both = [(DARE, OTHER), (DARE, DARE), (DULL, DULL * -7), (DILEMMA, worse_moves((2, 2)))]
        once = [(DARE, DULL), (DILEMMA, DULL), (-DARE, DULL), (DILEMMA, two([[(0, 0), (0, 0)], [(1, 0), (0, 0)]]))]
        none = [(DARE, -DARE), (DILEMMA, -DILEMMA), (DARE, DILEMMA)]
        for (one, other), wanted in ([(each, [True, True]) for each in both] + [(each, [True, False]) for each in once]
                                     + [(each, [False, False]) for each in none]):
            self.same_value([implies(one, other), implies(other, one)], wanted)
            self.assertIs(same_hints(one, other), all(wanted))

    def test_equal_payoffs_are_implied_by_every_game(self):
        for game in GAMES[::2]:
            dull = equal_payoffs(game.shape, -1000)
            self.assertIs(implies(game, dull), True)
            self.assertIs(shows_implied(game, dull, {bet: (1, {}) for bet in bets_of(game.shape)}), True)

    def test_a_single_cell_and_one_player(self):
        for shape in [(1,), (1, 1), (1, 1, 1)]:
            one, other = equal_payoffs(shape, 1000), equal_payoffs(shape, -3)
            self.same_value([multipliers(one, other), hint_between(one, other), same_hints(one, other),
                             shows_implied(one, other, {})], [{}, None, True, True])
        one, other = Game([3], [[1], [5], [5]]), Game([3], [[-9], [0], [0]])
        self.same_value([same_hints(one, other), implies(Game([3], [[1], [5], [4]]), one)], [True, True])
        self.same_value([implies(one, Game([3], [[1], [5], [4]])),
                         hint_between(one, Game([3], [[1], [5], [4]])).weights()], [False, [0, 0, 1]])

    def test_multiples_and_large_numbers(self):
        for game in LARGE_GAMES[:4]:
            self.assertIs(same_hints(game, game * BIG), True)
            self.assertTrue(is_paper(game * BIG, game, multipliers(game * BIG, game)))

    def test_ends_soon_at_the_limits(self):
        with self.ends_within(60):
            for game in LARGE_GAMES:
                multipliers(game, with_amounts(game, 3))
                same_hints(game, game * 1000)
                implies(game, -game)
            groups_same([drawn(seed, (4, 4), 1000) for seed in range(8)] + [worse_moves((4, 4)), LARGE_GAMES[0] * 2])

    def test_mismatch(self):
        for one, other in [((2, 2), (2, 3)), ((4,), (2, 2)), ((2, 2), (2, 2, 1)), ((1, 4), (4, 1)), ((1,), (1, 1))]:
            games = (equal_payoffs(one, 0), equal_payoffs(other, 0))
            for call in [implies, hint_between, multipliers, same_hints]:
                self.fails(Mismatch, {}, call, *games)
            for paper in [{}, None, {(0, 0, 1): (1, {})}]:
                self.fails(Mismatch, {}, shows_implied, *games, paper)
            self.fails(Mismatch, {}, groups_same, list(games))

    def test_names_arguments_and_new_values(self):
        self.same_value([implies(other=OTHER, one=DARE), hint_between(other=OTHER, one=DARE),
                         same_hints(other=OTHER, one=DARE), implies(other=DARE, one=DULL)], [True, None, True, False])
        first = multipliers(other=OTHER, one=DARE)
        wanted = repr(first)
        for _, book in first.values():
            book.clear()
        first.clear()
        multipliers(DARE, DULL)
        self.assertEqual(repr(multipliers(DARE, OTHER)), wanted)
        self.same_value([hint_between(DARE, -DARE) == hint_between(DARE, -DARE), DARE.payoffs()],
                        [True, [[6, 6], [2, 7], [7, 2], [0, 0]]])


class ShowsImpliedTest(Case):
    def setUp(self):
        self.paper = multipliers(DARE, OTHER)

    def says(self, wanted, paper):
        self.assertIs(shows_implied(DARE, OTHER, paper), wanted)

    def test_the_order_of_the_keys_makes_no_difference(self):
        self.says(True, dict(reversed(list(self.paper.items()))))
        self.assertIs(shows_implied(paper=self.paper, other=OTHER, one=DARE), True)

    def test_multiples(self):
        self.says(True, {bet: (scale * BIG, {each: amount * BIG for each, amount in book.items()})
                         for bet, (scale, book) in self.paper.items()})

    def test_keys_that_lack_or_are_too_many(self):
        for bet in self.paper:
            self.says(False, {each: told for each, told in self.paper.items() if each != bet})
        for wrong in [(0, 0, 0), (2, 0, 1), (0, 0, 2), (0, 1), None, 0, "ab", (0, 0, True, 1)]:
            self.says(False, {**self.paper, wrong: (1, {})})
            self.says(False, {**{each: self.paper[each] for each in list(self.paper)[1:]}, wrong: (1, {})})
        self.says(False, {})
        # The key is equal to a bet, but True is no integer.
        self.says(False, {(bet[0], bet[1], True) if bet[2] == 1 else bet: told for bet, told in self.paper.items()})

    def test_scales_that_are_wrong(self):
        for bet, (scale, book) in self.paper.items():
            for wrong in [0, -1, -scale, True, None, 1.0, "1", (1,)]:
                self.says(False, {**self.paper, bet: (wrong, book)})

    def test_books_that_are_wrong(self):
        for bet, (scale, _) in self.paper.items():
            for wrong in [None, [], (), 1, "book", [bet], {bet: 0}, {bet: -1}, {bet: True}, {bet: 1.0}, {(0, 0, 0): 1},
                          {(2, 0, 1): 1}, {(0, 0, 2): 1}, {0: 1}, {(0, 0): 1}]:
                self.says(False, {**self.paper, bet: (scale, wrong)})
            self.says(False, {**self.paper, bet: (scale, {})})
            self.says(False, {**self.paper, bet: (scale, {bet: scale * 1000})})

    def test_values_that_are_no_such_dicts(self):
        for value in ODD_VALUES + [list(self.paper.items()), tuple(self.paper.items()), list(self.paper), 7]:
            self.says(False, value)
        for bet, told in self.paper.items():
            for wrong in ODD_VALUES + [list(told), told[:1], told + (1,), told[::-1], told[0], told[1], (told,)]:
                self.says(False, {**self.paper, bet: wrong})

    def test_by_its_definition(self):
        chooser = random.Random(91)
        counts = {True: 0, False: 0}
        for one, other in PAIRS[::2]:
            paper = multipliers(one, other)
            for _ in range(3 if paper else 0):
                told = dict(paper)
                bet = chooser.choice(list(told))
                scale, book = told[bet]
                change = chooser.random()
                if change < 0.4:
                    told[bet] = (scale + 1, book)
                elif change < 0.8:
                    key = chooser.choice(bets_of(one.shape))
                    told[bet] = (scale, {**book, key: book.get(key, 0) + 1})
                wanted = is_paper(one, other, told)
                self.assertIs(shows_implied(one, other, told), wanted)
                counts[wanted] += 1
        self.assertGreater(min(counts.values()), 20)


class GroupsTest(Case):
    def test_groups_by_the_first_index(self):
        games = [DULL, DARE, -DARE, OTHER, DILEMMA, DULL * 0, DARE * 2, DILEMMA + DULL, -DARE * 5, DARE + OTHER]
        self.same_value(groups_same(games), [[0, 5], [1, 3, 6, 9], [2, 8], [4, 7]])
        self.same_value(groups_same(games[::-1]), [[0, 3, 6, 8], [1, 7], [2, 5], [4, 9]])

    def test_edges(self):
        self.same_value([groups_same([]), groups_same(()), groups_same([DARE]), groups_same([DARE] * 3)],
                        [[], [], [[0]], [[0, 1, 2]]])
        for shape in SHAPES:
            games = [equal_payoffs(shape, 1000), worse_moves(shape), equal_payoffs(shape, -1000)]
            wanted = [[0, 2], [1]] if max(shape) > 1 else [[0, 1, 2]]
            self.same_value(groups_same(games), wanted)

    def test_groups_by_pairs(self):
        for shape in [(2,), (2, 2), (3, 2), (2, 2, 2)]:
            games = [drawn(seed, shape, 1) for seed in range(9)]
            games += [with_amounts(game, 5) for game in games[::2]]
            found = groups_same(games)
            self.assertEqual(sorted(index for group in found for index in group), list(range(len(games))))
            self.assertEqual(found, sorted([sorted(group) for group in found]))
            home = {index: at for at, group in enumerate(found) for index in group}
            for one in range(len(games)):
                for other in range(one):
                    self.assertIs(same_hints(games[one], games[other]), home[one] == home[other])

    def test_mismatch_wherever_it_stands(self):
        for games in [[DARE, DARE, DULL, drawn(1, (2, 3), 1)], [drawn(1, (4,), 1), DARE], [DARE, drawn(1, (1, 4), 1), DARE]]:
            self.fails(Mismatch, {}, groups_same, games)

    def test_names_arguments_and_new_values(self):
        games = [DARE, -DARE, OTHER]
        self.same_value(groups_same(games=tuple(games)), [[0, 2], [1]])
        groups_same(games)[0].clear()
        groups_same(games).clear()
        self.same_value([groups_same(games), len(games)], [[[0, 2], [1]], 3])


class RulesTest(Case):
    """Point [93]."""

    def test_amounts_that_do_not_depend_on_the_own_move(self):
        for seed, game in enumerate(SMALL_GAMES + LARGE_GAMES[:4]):
            self.assertIs(same_hints(game, with_amounts(game, seed)), True)

    def test_factors_of_the_players(self):
        for seed, game in enumerate(SMALL_GAMES + LARGE_GAMES[:4]):
            factors = [[1, 1000, 3], [7, 1, 1], [2, 5, 1000]][seed % 3][:game.players]
            self.assertIs(same_hints(game, with_factors(game, factors)), True)

    def test_sums_of_implied_games(self):
        counts = 0
        for one, other in PAIRS[::3]:
            for third in [with_amounts(one, 4), equal_payoffs(one.shape, 1), worse_moves(one.shape)]:
                if implies(one, other) and implies(one, third):
                    self.assertIs(implies(one, other + third), True)
                    counts += 1
        self.assertGreater(counts, 30)


if __name__ == "__main__":
    unittest.main()
