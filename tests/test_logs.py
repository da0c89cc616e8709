import random
import unittest
from fractions import Fraction

from checking import BAD_SHAPES, BIG, GOOD_SHAPES, ODD_VALUES, Case
from everyhint.errors import BadRows, BadShape, BadShares, Mismatch, NoCell, NoMove, NoPlayer
from everyhint.games import Game, two
from everyhint.goals import greatest_mean
from everyhint.heeding import is_heeded, plan_gain
from everyhint.hints import Hint, product, sure
from everyhint.logs import (Log, best_taken, fixed_regret, greatest_taken, is_taken, no_regrets, offers, regret,
                            shows_offers, takes)
from everyhint.possible import wide_hint
from sums import (DARE, DILEMMA, EDGE_GAMES, GAMES, LARGE_GAMES, SHAPES, SMALL_GAMES, bets_of, chances, changed, drawn,
                  equal_payoffs, heeded, mean_of, order, pair, worse_moves)

WRONG_NUMBERS = [2, 3, -1, BIG, True, False, None, "0", 0.0, (0,), [0]] + ODD_VALUES
WRONG_ROWS = [[], [1], [1, 1, 1], [1] * 5, [1, 1, 1, True], [False, 1, 1, 1], [1, 1, 1, None], [1, 1, 1, 1.0],
              ["1"] * 4, "1111", [[1]] * 4, [[1, 1], [1, 1]], {0: 1, 1: 1, 2: 1, 3: 1}, {1, 2, 3, 4}, 4] + ODD_VALUES
GOAL = [12, 9, 9, 0]


def filled(shape, plays):
    log = Log(shape)
    for cell in plays:
        log.play(cell)
    return log


def drawn_log(seed, shape, many):
    chooser = random.Random(f"{seed} {shape} {many}")
    return filled(shape, [chooser.choice(order(shape)[:chooser.randint(1, 16)]) for _ in range(many)])


def regret_of(log, game, player, told, other):
    """The regret, added up play by play."""
    total = 0
    for cell in log.plays():
        if cell[player] == told:
            total += game[changed(cell, player, other)][player] - game[cell][player]
    return total


def fixed_regret_of(log, game, player, move):
    return sum(game[changed(cell, player, move)][player] - game[cell][player] for cell in log.plays())


def fixed_gain(game, hint, player, move):
    """What a player gains by a plan that always plays the same move."""
    return sum(chance * (game[changed(cell, player, move)][player] - game[cell][player])
               for cell, chance in chances(hint).items())


def moves_of(game):
    return [(player, move) for player, many in enumerate(game.shape) for move in range(many)]


def taken(game, hint):
    return all(fixed_gain(game, hint, player, move) <= 0 for player, move in moves_of(game))


def offer_sums(game, goal, told):
    """The sums of point [134] in all cells."""
    scale, amounts = told
    return [scale * number + sum(amount * (game[cell][player] - game[changed(cell, player, move)][player])
                                 for (player, move), amount in amounts.items())
            for cell, number in zip(order(game.shape), goal)]


class LogTest(Case):
    def test_examples_of_the_interface(self):
        game = two([[(6, 6), (2, 7)], [(7, 2), (0, 0)]])
        log = Log((2, 2))
        self.same_value([log.play((0, 0)), log.play((0, 1)), log.play((0, 0)), log.play((1, 0))], [None] * 4)
        self.same_value([len(log), log.hint().weights(), regret(log, game, 0, 0, 1), fixed_regret(log, game, 0, 1),
                         no_regrets(log, game), log.behind(1).plays()], [4, [2, 1, 1, 0], 0, 0, True, [(0, 0)]])
        self.same_value([greatest_taken(game, [12, 9, 9, 0]), is_taken(game, best_taken(game, [12, 9, 9, 0])),
                         no_regrets(log.behind(1), game)], [(21, 2), True, False])

    def test_plays_of_all_shapes(self):
        for shape in GOOD_SHAPES:
            log = Log(shape)
            self.same_value([log.shape, len(log), log.plays(), log.hint()], [tuple(shape), 0, [], None])
            for cell in order(shape)[::-1] + order(shape)[:2]:
                log.play(cell)
            self.same_value([len(log), log.plays()], [len(order(shape)) + len(order(shape)[:2]),
                                                      order(shape)[::-1] + order(shape)[:2]])

    def test_hints(self):
        log = filled([2, 2], [(0, 1)] * 4 + [(1, 1)] * 6 + [(0, 1)] * 2)
        self.assertIs(type(log.hint()), Hint)
        self.same_value([log.hint().shape, log.hint().weights()], [(2, 2), [0, 1, 0, 1]])
        for seed, shape in enumerate(SHAPES):
            log = drawn_log(seed, shape, 30)
            self.same_value(log.hint() == Hint(shape, [log.plays().count(cell) for cell in order(shape)]), True)

    def test_behind(self):
        log = filled((2, 2), [(0, 0), (1, 1), (0, 1)])
        for many in range(4):
            found = log.behind(many)
            self.assertIs(type(found), Log)
            self.same_value([found.shape, found.plays()], [(2, 2), [(0, 0), (1, 1), (0, 1)][:many]])
        self.same_value([log.behind(0).hint(), len(Log((1,)).behind(0)), log.behind(count=2).plays()],
                        [None, 0, [(0, 0), (1, 1)]])
        self.assertIsNot(log.behind(3), log)

    def test_logs_go_on_by_themselves(self):
        log = filled((2, 2), [(0, 0), (1, 1)])
        other, third = log.behind(2), log.behind(1)
        other.play((0, 1))
        log.play((1, 0))
        third.play((1, 1))
        self.same_value([log.plays(), other.plays(), third.plays()],
                        [[(0, 0), (1, 1), (1, 0)], [(0, 0), (1, 1), (0, 1)], [(0, 0), (1, 1)]])

    def test_what_is_passed_and_returned_may_be_changed(self):
        shape = [2, 2]
        log = Log(shape)
        shape[0] = 1
        log.play(cell=(1, 0))
        log.plays().clear()
        hint = log.hint()
        log.play((0, 0))
        self.same_value([log.shape, log.plays(), hint.weights()], [(2, 2), [(1, 0), (0, 0)], [0, 0, 1, 0]])
        self.same_value(Log(shape=(1, 4)).shape, (1, 4))

    def test_errors(self):
        for shape in BAD_SHAPES:
            self.fails(BadShape, {}, Log, shape)
        log = filled((2, 2), [(0, 0), (1, 1)])
        for cell in [(0,), (), (0, 0, 0), (2, 0), (0, 2), (-1, 0), (0, -1), [0, 0], (True, 0), (0, False), (0, 1.0),
                     (0, None), ([0], 0), "00", 0, (BIG, 0)] + ODD_VALUES:
            self.fails(NoCell, {"cell": cell}, log.play, cell)
        for count in [3, -1, BIG, True, False, None, "1", 1.0, (1,), [1]] + ODD_VALUES:
            self.fails(BadShares, {}, log.behind, count)
        self.fails(BadShares, {}, Log((1,)).behind, 1)
        self.same_value(log.plays(), [(0, 0), (1, 1)])


class RegretTest(Case):
    def test_regrets_play_by_play(self):
        for seed, game in enumerate(GAMES):
            log = drawn_log(seed, game.shape, [0, 1, 2, 9, 40][seed % 5])
            found = []
            for player, many in enumerate(game.shape):
                for told in range(many):
                    self.same_value(fixed_regret(log, game, player, told), fixed_regret_of(log, game, player, told))
                    for other in range(many):
                        found.append(regret_of(log, game, player, told, other))
                        self.same_value(regret(log, game, player, told, other), found[-1])
            self.assertIs(no_regrets(log, game), max(found) <= 0)
            # Points [132] and [133].
            self.assertIs(no_regrets(log, game), log.hint() is None or heeded(game, log.hint()))
            if log.hint() is not None:
                fixed = [fixed_regret(log, game, player, move) for player, move in moves_of(game)]
                self.assertIs(is_taken(game, log.hint()), max(fixed) <= 0)

    def test_logs_of_heeded_hints_have_no_regrets(self):
        for game in SMALL_GAMES[:12] + EDGE_GAMES[::6]:
            weights = wide_hint(game).weights()
            if sum(weights) < 500:
                log = filled(game.shape, [cell for cell, weight in zip(order(game.shape), weights) for _ in range(weight)])
                self.assertEqual(log.hint(), wide_hint(game))
                self.assertIs(no_regrets(log, game), True)

    def test_a_log_without_a_play(self):
        for shape in SHAPES:
            log, game = Log(shape), drawn(1, shape, 1000)
            self.same_value([regret(log, game, 0, 0, shape[0] - 1), fixed_regret(log, game, 0, 0), no_regrets(log, game)],
                            [0, 0, True])

    def test_only_plays_of_the_told_move_count(self):
        log = filled((2, 2), [(0, 0), (0, 0), (1, 1), (1, 1), (1, 1)])
        self.same_value([[regret(log, DARE, 0, told, other) for told in (0, 1) for other in (0, 1)],
                         [fixed_regret(log, DARE, 0, move) for move in (0, 1)],
                         [fixed_regret(log, DARE, 1, move) for move in (0, 1)]], [[0, 2, 6, 0], [6, 2], [6, 2]])

    def test_a_regret_that_the_sum_of_regrets_hides(self):
        # Always playing move 1 would have gained nothing, but playing it instead of move 0 would have.
        game = Game((3,), [[0], [1], [9]])
        log = filled((3,), [(0,), (2,)])
        self.same_value([fixed_regret(log, game, 0, 1), regret(log, game, 0, 0, 1), no_regrets(log, game)], [-7, 1, False])

    def test_large_payoffs_and_many_plays(self):
        game = drawn(3, (4, 4), 1000) * BIG
        log = drawn_log(9, (4, 4), 20000)
        with self.ends_within(60):
            self.same_value(regret(log, game, 1, 0, 3), regret_of(log, game, 1, 0, 3))
            self.same_value(fixed_regret(log, game, 0, 2), fixed_regret_of(log, game, 0, 2))
            no_regrets(log, game)

    def test_mismatch_comes_first(self):
        log = filled((2, 2), [(0, 0)])
        for shape in [(2, 3), (4,), (2, 2, 1), (1, 1)]:
            game = equal_payoffs(shape, 1)
            self.fails(Mismatch, {}, regret, log, game, 9, 9, 9)
            self.fails(Mismatch, {}, fixed_regret, log, game, None, None)
            self.fails(Mismatch, {}, no_regrets, log, game)
            self.fails(Mismatch, {}, no_regrets, Log((2, 2)), game)

    def test_then_no_player_and_no_move(self):
        log = filled((2, 2), [(0, 0)])
        for wrong in WRONG_NUMBERS:
            self.fails(NoPlayer, {"player": wrong}, regret, log, DARE, wrong, 9, 9)
            self.fails(NoPlayer, {"player": wrong}, fixed_regret, log, DARE, wrong, 9)
            self.fails(NoMove, {"move": wrong}, regret, log, DARE, 0, wrong, 9)
            self.fails(NoMove, {"move": wrong}, regret, log, DARE, 1, 1, wrong)
            self.fails(NoMove, {"move": wrong}, fixed_regret, log, DARE, 1, wrong)
        game = drawn(1, (1, 3), 5)
        self.fails(NoMove, {"move": 1}, regret, Log((1, 3)), game, 0, 1, 1)
        self.fails(NoMove, {"move": 1}, fixed_regret, Log((1, 3)), game, 0, 1)

    def test_names(self):
        log = filled((2, 2), [(0, 0)])
        self.same_value([regret(other=1, told=0, player=0, game=DARE, log=log), no_regrets(game=DARE, log=log),
                         fixed_regret(move=1, player=1, game=DARE, log=log), log.plays()], [1, False, 1, [(0, 0)]])


class TakesTest(Case):
    def hints(self, game, seed):
        chooser = random.Random(f"{seed}")
        found = [Hint(game.shape, [chooser.choice([0, 0, 1, 2, 5000]) for _ in list(game)[1:]] + [1]) for _ in range(3)]
        goal = [chooser.randint(-9, 9) for _ in game]
        return found + [wide_hint(game), best_taken(game, goal), sure(game.shape, chooser.choice(list(game)))]

    def test_by_the_definition(self):
        counts = {True: 0, False: 0}
        for seed, game in enumerate(GAMES):
            for hint in self.hints(game, seed):
                wanted = [max(fixed_gain(game, hint, player, move) for move in range(many)) <= 0
                          for player, many in enumerate(game.shape)]
                self.same_value([takes(game, hint, player) for player in range(game.players)], wanted)
                self.assertIs(is_taken(game, hint), all(wanted))
                self.same_value(wanted, [max(Fraction(*plan_gain(game, hint, player, [move] * many))
                                             for move in range(many)) <= 0 for player, many in enumerate(game.shape)])
                counts[all(wanted)] += 1
        self.assertGreater(min(counts.values()), 100)

    def test_heeded_hints_are_taken_and_the_other_way_with_two_moves(self):
        others = 0
        for seed, game in enumerate(GAMES):
            for hint in self.hints(game, seed):
                if is_heeded(game, hint):
                    self.assertIs(is_taken(game, hint), True)
                elif max(game.shape) <= 2:
                    self.assertIs(is_taken(game, hint), False)
                else:
                    others += is_taken(game, hint)
        # With more moves there are hints that are taken, but not heeded.
        self.assertGreater(others, 5)

    def test_one_player_takes_what_another_one_does_not(self):
        hint = sure((2, 2), (0, 1))
        game = two([[(0, 0), (1, 0)], [(0, 0), (0, 0)]])
        self.same_value([takes(game, hint, 0), takes(game, hint, 1), is_taken(game, hint)], [True, True, True])
        game = two([[(0, 5), (1, 0)], [(0, 0), (0, 0)]])
        self.same_value([takes(game, hint, 0), takes(game, hint, 1), is_taken(game, hint)], [True, False, False])

    def test_errors(self):
        hint = Hint((2, 2), [1, 1, 1, 0])
        for shape in [(2, 3), (4,), (2, 2, 1), (1, 1)]:
            for player in [0, 9, None]:
                self.fails(Mismatch, {}, takes, equal_payoffs(shape, 1), hint, player)
            self.fails(Mismatch, {}, is_taken, equal_payoffs(shape, 1), hint)
        for wrong in WRONG_NUMBERS:
            self.fails(NoPlayer, {"player": wrong}, takes, DARE, hint, wrong)

    def test_names(self):
        hint = Hint((2, 2), [2, 1, 1, 0])
        self.same_value([takes(player=1, hint=hint, game=DARE), is_taken(hint=hint, game=DARE)], [True, True])


class GreatestTakenTest(Case):
    def check(self, game, goal):
        """The best hint is taken, and the offers show that none has a greater mean."""
        value, hint, told = greatest_taken(game, goal), best_taken(game, goal), offers(game, goal)
        self.same_value(value, pair(Fraction(*value)))
        self.assertEqual([type(hint), hint.shape], [Hint, game.shape])
        self.assertTrue(taken(game, hint))
        self.same_value(pair(mean_of(hint, goal)), value)
        self.assertEqual([type(told), len(told), type(told[0]), type(told[1])], [tuple, 2, int, dict])
        self.assertGreaterEqual(told[0], 1)
        for key, amount in told[1].items():
            self.assertEqual([type(key), type(amount)] + [type(each) for each in key], [tuple, int, int, int])
            self.assertIn(key, moves_of(game))
            self.assertGreaterEqual(amount, 1)
        self.assertLessEqual(max(offer_sums(game, goal, told)), told[0] * Fraction(*value))
        self.assertIs(shows_offers(game, goal, value, told), True)
        return Fraction(*value)

    def test_evidence_in_all_games(self):
        chooser = random.Random(134)
        greater = 0
        for game in GAMES:
            for most in [1, 1000]:
                goal = [chooser.randint(-most, most) for _ in game]
                value = self.check(game, goal)
                # Every heeded hint is taken.
                heard = Fraction(*greatest_mean(game, goal))
                self.assertGreaterEqual(value, heard)
                if max(game.shape) <= 2:
                    self.assertEqual(value, heard)
                greater += value > heard
        self.assertGreater(greater, 10)

    def test_edges(self):
        for shape in SHAPES:
            goal = [(7 * index) % 5 - 2 for index in range(len(order(shape)))]
            self.same_value([greatest_taken(equal_payoffs(shape, 3), goal), greatest_taken(worse_moves(shape), goal)],
                            [(max(goal), 1), (goal[-1], 1)])
            self.same_value(greatest_taken(drawn(1, shape, 1000), [-1000] * len(goal)), (-1000, 1))
        for shape in [(1,), (1, 1), (1, 1, 1)]:
            game = equal_payoffs(shape, 7)
            self.same_value([greatest_taken(game, [-5]), best_taken(game, [-5]).weights(), offers(game, [-5])],
                            [(-5, 1), [1], (1, {})])
        self.same_value(greatest_taken(Game([4], [[3], [1000], [-1000], [1000]]), [9, 1, 9, 2]), (2, 1))
        self.check(drawn(8, (4, 4), 1000) * BIG, [BIG - index for index in range(16)])

    def test_ends_soon_at_the_limits(self):
        with self.ends_within(60):
            for game in LARGE_GAMES:
                for call in [greatest_taken, best_taken, offers]:
                    call(game, [1000 - 7 * index for index in range(16)])

    def test_bad_rows(self):
        for goal in WRONG_ROWS:
            for call in [greatest_taken, best_taken, offers]:
                self.fails(BadRows, {}, call, DARE, goal)
            for told in [(1, {}), None]:
                self.fails(BadRows, {}, shows_offers, DARE, goal, (21, 2), told)

    def test_names_tuples_and_new_values(self):
        goal = list(GOAL)
        first = [greatest_taken(goal=goal, game=DARE), best_taken(goal=goal, game=DARE).weights(),
                 repr(offers(goal=goal, game=DARE))]
        self.assertIs(shows_offers(told=offers(DARE, goal), value=(21, 2), goal=tuple(goal), game=DARE), True)
        offers(DARE, goal)[1].clear()
        greatest_taken(DILEMMA, goal)
        self.same_value([greatest_taken(DARE, tuple(goal)), best_taken(DARE, tuple(goal)).weights(),
                         repr(offers(DARE, tuple(goal)))], first)
        self.same_value(goal, GOAL)


class ShowsOffersTest(Case):
    def setUp(self):
        self.told = offers(DARE, GOAL)

    def says(self, wanted, told, value=(21, 2)):
        self.assertIs(shows_offers(DARE, GOAL, value, told), wanted)

    def test_right_offers(self):
        scale, amounts = self.told
        self.says(True, self.told)
        self.says(True, (scale * BIG, {key: amount * BIG for key, amount in amounts.items()}))
        self.says(True, (scale, dict(reversed(list(amounts.items())))))

    def test_greater_and_lesser_values(self):
        # A sum that is at most the scale times a value is so for each greater value.
        for value in [(22, 2), (11, 1), (12, 1), (BIG, 1)]:
            self.says(True, self.told, value)
        for value in [(20, 2), (10, 1), (-21, 2), (0, 1), (21 * BIG - 1, 2 * BIG)]:
            self.says(False, self.told, value)
        self.says(True, (1, {}), (12, 1))
        self.says(False, (1, {}), (23, 2))

    def test_other_scales_and_amounts(self):
        scale, amounts = self.told
        for wrong in [0, -1, -scale, scale * 1000, True, False, None, float(scale), str(scale), (scale,), [scale]]:
            self.says(False, (wrong, amounts))
            self.says(False, (wrong, {}))
        for key in amounts:
            for wrong in [0, -1, True, False, None, 1.0, "1", (1,), [1]]:
                self.says(False, (scale, {**amounts, key: wrong}))
            self.says(False, (scale, {each: amount for each, amount in amounts.items() if each != key}))
            self.says(False, (1, {key: wrong}), (12, 1))

    def test_keys_that_are_wrong(self):
        for key in [(2, 0), (0, 2), (-1, 0), (0, -1), (0,), (0, 0, 1), (), (True, 0), (0, True), (None, 0), (0, None),
                    ("0", 0), (0, 0.0), 0, None, "00", ((0, 0),), (BIG, 0), (0, BIG)]:
            self.says(False, (1, {key: 1}), (BIG, 1))
            self.says(False, (self.told[0], {**{each: amount for each, amount in self.told[1].items() if each != key},
                                             key: 1}))

    def test_values_that_are_no_offers(self):
        scale, amounts = self.told
        for told in [[scale, amounts], (scale,), (scale, amounts, 0), (amounts, scale), (scale, list(amounts)),
                     (scale, list(amounts.items())), (scale, None), (scale, 1), (scale, "ab"), scale, amounts] + ODD_VALUES:
            self.says(False, told)

    def test_by_its_definition(self):
        chooser = random.Random(135)
        counts = {True: 0, False: 0}
        for game in SMALL_GAMES + EDGE_GAMES[::4]:
            for _ in range(3):
                goal = [chooser.randint(-9, 9) for _ in game]
                value = Fraction(*greatest_taken(game, goal)) + chooser.choice([0, 0, 1, -1])
                scale, amounts = offers(game, goal)
                if chooser.random() < 0.5:
                    key = chooser.choice(moves_of(game))
                    amounts[key] = amounts.get(key, 0) + 1
                wanted = max(offer_sums(game, goal, (scale, amounts))) <= scale * value
                self.assertIs(shows_offers(game, goal, pair(value), (scale, amounts)), wanted)
                counts[wanted] += 1
        self.assertGreater(min(counts.values()), 40)


class ProductTest(Case):
    def test_independent_draws_of_equal_chances(self):
        # With independent draws a told move tells nothing, so taking and heeding are the same.
        game = two([[(0, 0), (1, -1), (-1, 1)], [(-1, 1), (0, 0), (1, -1)], [(1, -1), (-1, 1), (0, 0)]])
        hint = product([[1, 1, 1], [1, 1, 1]])
        self.same_value([is_taken(game, hint), is_heeded(game, hint)], [True, True])


if __name__ == "__main__":
    unittest.main()
