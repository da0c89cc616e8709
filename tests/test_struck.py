import itertools
import random
import unittest

from checking import BAD_SHAPES, BIG, GOOD_SHAPES, NO_LISTS, ODD_VALUES, Case
from everyhint.errors import BadMoves, BadShape, Mismatch, NoMove, NoPlayer
from everyhint.games import Game, kept, two
from everyhint.goals import best_hint
from everyhint.heeding import is_heeded
from everyhint.hints import Hint, sure
from everyhint.possible import wide_hint
from everyhint.struck import (are_strikes, belief_for, is_above, is_belief, left, left_after, mixture_above, others,
                              strikes, widened)
from sums import (DARE, DILEMMA, GAMES, LARGE_GAMES, SHAPES, SMALL_GAMES, chances, changed, drawn, equal_payoffs,
                  heeded, order, worse_moves)

WRONG_NUMBERS = [3, 4, -1, BIG, True, False, None, "0", 0.0, (0,), [0]] + ODD_VALUES
EXAMPLE = two([[(4, 0), (0, 3)], [(0, 0), (4, 3)], [(1, 1), (1, 0)]])
STEPS = [(0, 2, [1, 1, 0]), (1, 0, [0, 1]), (0, 0, [0, 1, 0])]
# All moves but 0 can be struck, some of them only behind moves of the other player.
LATE = two([[(4, 4), (3, 3), (2, 2), (1, 0)], [(3, 3), (2, 2), (1, 0), (0, 1)],
            [(2, 2), (0, 1), (0, 0), (3, -1)], [(0, 1), (1, 0), (-1, 3), (-1, -1)]])


def combos(shape, player):
    return list(itertools.product(*[range(many) for each, many in enumerate(shape) if each != player]))


def payoff_with(game, player, combo, move):
    return game[combo[:player] + (move,) + combo[player:]][player]


def best_under(game, player, move, belief):
    """Whether a list is a belief under which a move is best, by point [81]."""
    found = combos(game.shape, player)
    if len(belief) != len(found) or min(belief) < 0 or max(belief) == 0:
        return False
    worths = [sum(number * payoff_with(game, player, combo, each) for combo, number in zip(found, belief))
              for each in range(game.shape[player])]
    return worths[move] == max(worths)


def mix_above(game, player, move, mix, moves=None):
    """Whether a list is a mix above a move, if all players have just some moves, by points [81] and [83]."""
    moves = moves or [list(range(many)) for many in game.shape]
    if len(mix) != game.shape[player] or min(mix) < 0 or max(mix) == 0:
        return False
    if any(number and each not in moves[player] for each, number in enumerate(mix)):
        return False
    found = [combo for combo in combos(game.shape, player)
             if all(each in chosen for each, chosen in zip(combo, moves[:player] + moves[player + 1:]))]
    return all(sum(number * (payoff_with(game, player, combo, each) - payoff_with(game, player, combo, move))
                   for each, number in enumerate(mix)) > 0 for combo in found)


def strikable(game, moves):
    """All that can be struck where some moves are left, with a mix."""
    rest = kept(game, moves)
    found = []
    for player, chosen in enumerate(moves):
        for index, move in enumerate(chosen):
            mix = mixture_above(rest, player, index)
            if mix is not None:
                shares = dict(zip(chosen, mix))
                found.append((player, move, [shares.get(each, 0) for each in range(game.shape[player])]))
    return found


class OthersTest(Case):
    def test_combinations_of_all_shapes(self):
        for shape in GOOD_SHAPES:
            for player in range(len(shape)):
                self.same_value(others(shape, player), combos(shape, player))
                self.same_value(others(tuple(shape), player), combos(shape, player))
        self.same_value([others([4], 0), others((2, 3, 1), 1)], [[()], [(0, 0), (1, 0)]])

    def test_errors(self):
        for shape in BAD_SHAPES:
            for player in [0, 9, None]:
                self.fails(BadShape, {}, others, shape, player)
        for player in WRONG_NUMBERS + [2]:
            self.fails(NoPlayer, {"player": player}, others, (3, 2), player)
        self.fails(NoPlayer, {"player": 1}, others, [1], 1)

    def test_names_and_new_values(self):
        shape = [3, 2]
        others(player=0, shape=shape).clear()
        self.same_value([others(player=0, shape=shape), shape], [[(0,), (1,)], [3, 2]])


class BestOrAboveTest(Case):
    def test_examples_of_the_interface(self):
        self.same_value([others((3, 2), 0), belief_for(EXAMPLE, 0, 2), is_above(EXAMPLE, 0, 2, [1, 1, 0]),
                         is_above(EXAMPLE, 0, 2, [3, 1, 0])], [[(0,), (1,)], None, True, False])

    def test_each_move_has_one_of_the_two(self):
        counts = [0, 0]
        for game in GAMES:
            for player, many in enumerate(game.shape):
                for move in range(many):
                    belief, mix = belief_for(game, player, move), mixture_above(game, player, move)
                    self.assertIs(belief is None, mix is not None)
                    found = belief or mix
                    self.assertEqual([type(found)] + [type(each) for each in found], [list] + [int] * len(found))
                    if belief is not None:
                        self.assertTrue(best_under(game, player, move, belief))
                        self.assertIs(is_belief(game, player, move, belief), True)
                    else:
                        self.assertTrue(mix_above(game, player, move, mix))
                        self.assertIs(is_above(game, player, move, mix), True)
                    counts[belief is None] += 1
        self.assertGreater(min(counts), 100)

    def test_one_player_and_players_with_one_move(self):
        game = Game([4], [[3], [1000], [-1000], [1000]])
        self.same_value([[belief_for(game, 0, move) for move in range(4)], is_belief(game, 0, 3, [BIG])],
                        [[None, [1], None, [1]], True])
        self.same_value([is_above(game, 0, 0, [0, 1, 0, 0]), is_above(game, 0, 0, [0, 1, 1, 0]),
                         is_above(game, 0, 3, [0, 1, 0, 0])], [True, False, False])
        for shape in [(1,), (1, 1), (1, 1, 1), (1, 4)]:
            self.assertTrue(best_under(equal_payoffs(shape, -1000), 0, 0, belief_for(drawn(1, shape, 9), 0, 0)))
            self.assertIsNone(mixture_above(drawn(1, shape, 9), 0, 0))

    def test_moves_that_are_the_same_and_mixes_of_others(self):
        for game in [equal_payoffs(shape, 1000) for shape in SHAPES]:
            for player, many in enumerate(game.shape):
                for move in range(many):
                    self.assertIsNone(mixture_above(game, player, move))
        mixed = two([[(4, 0), (0, 0)], [(0, 0), (4, 0)], [(2, 0), (2, 0)]])
        self.same_value([mixture_above(mixed, 0, 2), is_belief(mixed, 0, 2, [1, 1]), is_belief(mixed, 0, 2, [2, 1])],
                        [None, True, False])
        # As soon as it is a little less everywhere, the mix is above it.
        less = two([[(1000, 0), (0, 0)], [(0, 0), (1000, 0)], [(499, 0), (499, 0)]])
        self.same_value([mixture_above(less, 0, 2) is None, belief_for(less, 0, 2)], [False, None])

    def test_a_mean_that_is_equal_in_one_combination_is_not_above(self):
        game = two([[(1, 0), (5, 0)], [(1, 0), (4, 0)]])
        self.same_value([is_above(game, 0, 1, [1, 0]), mixture_above(game, 0, 1), is_belief(game, 0, 1, [1, 0]),
                         is_belief(game, 0, 1, [0, 1]), is_belief(game, 0, 1, [9, 1])],
                        [False, None, True, False, False])

    def test_a_mix_may_have_the_move_itself(self):
        self.same_value([is_above(EXAMPLE, 0, 2, [1, 1, 1]), is_above(EXAMPLE, 0, 2, [0, 0, 1])], [True, False])

    def test_beliefs_and_mixes_by_their_definitions(self):
        chooser = random.Random(81)
        counts = {True: 0, False: 0}
        for game in SMALL_GAMES + LARGE_GAMES:
            for player, many in enumerate(game.shape):
                for move in range(many):
                    for _ in range(4):
                        belief = [chooser.choice([0, 0, 1, 3, 1000]) for _ in combos(game.shape, player)]
                        mix = [chooser.choice([0, 0, 1, 3, 1000]) for _ in range(many)]
                        wanted = [best_under(game, player, move, belief), mix_above(game, player, move, mix)]
                        self.same_value([is_belief(game, player, move, belief), is_above(game, player, move, mix)],
                                        wanted)
                        for each in wanted:
                            counts[each] += 1
        self.assertGreater(min(counts.values()), 300)

    def test_multiples_and_large_numbers(self):
        self.same_value([is_above(EXAMPLE, 0, 2, [BIG, BIG, 0]), is_belief(EXAMPLE, 0, 0, [BIG, 0])], [True, True])
        game = drawn(4, (4, 4), 1000) * BIG
        for move in range(4):
            self.same_value(belief_for(game, 0, move), belief_for(drawn(4, (4, 4), 1000), 0, move))

    def test_wrong_lists_are_neither(self):
        game = worse_moves((3, 2))
        self.same_value([is_above(game, 0, 0, [0, 0, 1]), is_belief(game, 0, 2, [1, 1])], [True, True])
        for value in [[0, 0, 0], [0, 0], [0, 1], [0, 0, 0, 1], [0, -1, 2], [-1, 0, 2], [0, 0, True], [False, 0, 1],
                      [0, 0, 1.0], [0, 0, "1"], [0, 0, None], [[0, 0, 1]], {0: 0, 1: 0, 2: 1}, "001", (), [],
                      {0, 1, 2}, 1] + ODD_VALUES:
            self.assertIs(is_above(game, 0, 0, value), False)
        for value in [[0, 0], [1], [1, 1, 1], [2, -1], [True, 1], [1, False], [1, 1.0], [None, 1], ["1", "1"],
                      [[1, 1]], {0: 1, 1: 1}, "11", (), [], {1, 2}, 1] + ODD_VALUES:
            self.assertIs(is_belief(game, 0, 2, value), False)

    def test_errors(self):
        calls = [(belief_for, []), (mixture_above, []), (is_belief, [[1, 1]]), (is_above, [[1, 1, 0]])]
        for call, more in calls:
            for player in WRONG_NUMBERS + [2]:
                for move in [0, 9, None]:
                    self.fails(NoPlayer, {"player": player}, call, EXAMPLE, player, move, *more)
            for move in WRONG_NUMBERS:
                self.fails(NoMove, {"move": move}, call, EXAMPLE, 0, move, *more)
            self.fails(NoMove, {"move": 2}, call, EXAMPLE, 1, 2, *more)
            self.fails(NoMove, {"move": 3}, call, EXAMPLE, 0, 3, *[None] * len(more))

    def test_names_tuples_and_new_values(self):
        self.same_value([belief_for(move=2, player=0, game=EXAMPLE), mixture_above(move=0, player=0, game=EXAMPLE),
                         is_belief(belief=(1, 0), move=0, player=0, game=EXAMPLE),
                         is_above(mix=(1, 1, 0), move=2, player=0, game=EXAMPLE)], [None, None, True, True])
        first = [mixture_above(EXAMPLE, 0, 2), belief_for(EXAMPLE, 0, 1)]
        wanted = [list(each) for each in first]
        for each in first:
            each.clear()
        mixture_above(DARE, 0, 0)
        self.same_value([mixture_above(EXAMPLE, 0, 2), belief_for(EXAMPLE, 0, 1)], wanted)


class StrikesTest(Case):
    def played_out(self, game, steps):
        """The moves that are left behind strikes, of which each is checked."""
        moves = [list(range(many)) for many in game.shape]
        self.assertIs(type(steps), list)
        for step in steps:
            self.assertEqual([type(step), type(step[2])], [tuple, list])
            player, move, mix = step
            self.assertIn(move, moves[player])
            self.assertTrue(mix_above(game, player, move, mix, moves))
            self.assertEqual(mix[move], 0)
            moves[player].remove(move)
        return moves

    def test_examples_of_the_interface(self):
        self.same_value([left(EXAMPLE), are_strikes(EXAMPLE, STEPS), are_strikes(EXAMPLE, [(1, 0, [0, 1])])],
                        [[[1], [1]], True, False])
        self.same_value(left_after(EXAMPLE, [(0, 2, [1, 1, 0])]), [[0, 1], [0, 1]])

    def test_strikes_one_after_another_until_no_further_one(self):
        longest = 0
        for game in GAMES + [LATE, EXAMPLE]:
            steps = strikes(game)
            moves = self.played_out(game, steps)
            self.same_value(left(game), moves)
            rest = kept(game, moves)
            for player, chosen in enumerate(moves):
                for index in range(len(chosen)):
                    self.assertTrue(best_under(rest, player, index, belief_for(rest, player, index)))
            self.assertIs(are_strikes(game, steps), True)
            longest = max(longest, len(steps))
        self.assertGreater(longest, 5)

    def test_part_of_the_strikes(self):
        for game in GAMES[::3] + [LATE, EXAMPLE]:
            steps = strikes(game)
            for many in range(len(steps) + 1):
                self.assertIs(are_strikes(game, steps[:many]), True)
                self.same_value(left_after(game, steps[:many]), self.played_out(game, steps[:many]))
            self.same_value(left_after(game, ()), [list(range(many)) for many in game.shape])

    def test_other_orders_leave_the_same(self):
        chooser = random.Random(83)
        for game in SMALL_GAMES + LARGE_GAMES + [LATE, EXAMPLE, worse_moves((4, 4)), worse_moves((2, 4, 2))]:
            moves, steps = [list(range(many)) for many in game.shape], []
            found = strikable(game, moves)
            while found:
                steps.append(chooser.choice(found))
                moves[steps[-1][0]].remove(steps[-1][1])
                found = strikable(game, moves)
            self.same_value([left(game), left_after(game, steps), are_strikes(game, steps)], [moves, moves, True])

    def test_moves_that_can_be_struck_only_behind_others(self):
        self.same_value([left(LATE), len(strikes(LATE))], [[[0], [0]], 6])
        late = [step for step in strikes(LATE) if not is_above(LATE, *step)]
        self.assertGreater(len(late), 1)
        for step in late:
            self.assertIs(are_strikes(LATE, [step]), False)
            self.fails(BadMoves, {"player": step[0]}, left_after, LATE, [step])

    def test_edges(self):
        for shape in SHAPES:
            self.same_value([strikes(equal_payoffs(shape, -1000)), left(equal_payoffs(shape, 1000))],
                            [[], [list(range(many)) for many in shape]])
            self.same_value(left(worse_moves(shape)), [[many - 1] for many in shape])
            self.assertEqual(len(strikes(worse_moves(shape))), sum(shape) - len(shape))
        self.same_value(left(Game([4], [[3], [1000], [-1000], [1000]])), [[1, 3]])
        self.same_value([left(DILEMMA), left(DARE)], [[[1], [1]], [[0, 1], [0, 1]]])

    def test_ends_soon_at_the_limits(self):
        with self.ends_within(60):
            for game in LARGE_GAMES + [worse_moves(shape) * 20 for shape in SHAPES]:
                steps = strikes(game)
                left(game)
                left_after(game, steps)

    def test_steps_that_cannot_be_struck(self):
        one, other, last = STEPS
        wrong = [[other], [one, last], [other, one, last], [one, one], [one, other, other], [last],
                 [(0, 2, [3, 1, 0])], [(0, 2, [0, 0, 1])], [one, other, (0, 0, [0, 1, 1])], [one, (0, 0, [0, 1, 0])],
                 [one, other, last, (0, 1, [0, 1, 0])], [one, other, last, (1, 1, [0, 1])],
                 [(0, 2, [1, 1])], [(0, 2, [1, 1, 0, 0])], [(0, 2, [0, 0, 0])], [(0, 2, [2, 1, -1])], [(0, 2, [])],
                 [(0, 2, [True, 1, 0])], [(0, 2, [1, 1, False])], [(0, 2, [1.0, 1, 0])], [(0, 2, None)],
                 [(0, 2, {0: 1, 1: 1, 2: 0})], [(0, 2, "110")], [(0, 2, 1)], [(0, 3, [1, 1, 0])], [(0, -1, [1, 1, 0])],
                 [(0, True, [1, 1, 0])], [(0, None, [1, 1, 0])], [(0, "2", [1, 1, 0])], [(0, [2], [1, 1, 0])],
                 [(0, BIG, [1, 1, 0])], [(2, 0, [1, 1, 0])], [(-1, 0, [0, 1])], [(BIG, 2, [1, 1, 0])]]
        wrong += [[(player, 2, [1, 1, 0])] for player in ODD_VALUES + [[0], (0,), False]]
        for steps in wrong:
            self.assertIs(are_strikes(EXAMPLE, steps), False)
            player = next(step[0] for at, step in enumerate(steps) if not are_strikes(EXAMPLE, steps[:at + 1]))
            self.fails(BadMoves, {"player": player}, left_after, EXAMPLE, steps)

    def test_the_first_wrong_step_counts(self):
        one, other, last = STEPS
        self.fails(BadMoves, {"player": 1}, left_after, EXAMPLE, [other, one, last])
        self.fails(BadMoves, {"player": 0}, left_after, EXAMPLE, [one, other, (0, 0, [1, 0, 0]), (7, 0, [1])])
        self.fails(BadMoves, {"player": 7}, left_after, EXAMPLE, [one, (7, 0, [1]), (1, 1, [1, 0])])

    def test_a_mix_may_have_the_move_itself_but_no_move_that_is_struck(self):
        one, other, _ = STEPS
        self.same_value(are_strikes(EXAMPLE, [(0, 2, [1, 1, 1]), (1, 0, [1, 5]), (0, 0, [1, 9, 0])]), True)
        self.same_value(are_strikes(EXAMPLE, [one, other, (0, 0, [0, 9, 1])]), False)
        self.same_value(left_after(EXAMPLE, [(0, 2, [1, 1, 1])]), [[0, 1], [0, 1]])

    def test_values_that_are_no_steps(self):
        for value in [[[0, 2, [1, 1, 0]]], [(0, 2)], [()], [(0, 2, [1, 1, 0], 0)], [None], [2], ["021"], (0, 2, [1, 1, 0]),
                      [STEPS], [[]]] + NO_LISTS:
            if value != {}:
                self.assertIs(are_strikes(EXAMPLE, value), False)

    def test_by_their_definition(self):
        chooser = random.Random(84)
        counts = {True: 0, False: 0}
        for game in SMALL_GAMES + [LATE, EXAMPLE]:
            for _ in range(6):
                steps = strikes(game)
                if steps and chooser.random() < 0.6:
                    player, move, mix = steps.pop(chooser.randrange(len(steps)))
                    if chooser.random() < 0.5:
                        steps.insert(chooser.randrange(len(steps) + 1), (player, move, [each + 1 for each in mix]))
                moves, wanted = [list(range(many)) for many in game.shape], True
                for player, move, mix in steps:
                    wanted = wanted and move in moves[player] and mix_above(game, player, move, mix, moves)
                    if move in moves[player]:
                        moves[player].remove(move)
                self.assertIs(are_strikes(game, steps), wanted)
                counts[wanted] += 1
        self.assertGreater(min(counts.values()), 20)

    def test_names_tuples_arguments_and_new_values(self):
        steps = [(0, 2, (1, 1, 0)), (1, 0, [0, 1])]
        self.same_value([are_strikes(steps=tuple(steps), game=EXAMPLE), left_after(steps=steps, game=EXAMPLE),
                         left(game=EXAMPLE)], [True, [[0, 1], [1]], [[1], [1]]])
        self.same_value(steps, [(0, 2, (1, 1, 0)), (1, 0, [0, 1])])
        wanted = repr(strikes(game=EXAMPLE))
        found = strikes(EXAMPLE)
        found[0][2].clear()
        found.clear()
        left(EXAMPLE)[0].clear()
        left_after(EXAMPLE, [])[0].clear()
        strikes(LATE)
        self.assertEqual(repr(strikes(EXAMPLE)), wanted)
        self.same_value([left(EXAMPLE), left_after(EXAMPLE, [])], [[[1], [1]], [[0, 1, 2], [0, 1]]])


class WidenedTest(Case):
    def test_example_of_the_interface(self):
        self.same_value(widened(Hint((1, 2), [1, 3]), [[1], [1, 0]], (3, 2)).weights(), [0, 0, 3, 1, 0, 0])

    def test_cells_by_their_definition(self):
        chooser = random.Random(84)
        for _ in range(200):
            shape = chooser.choice(GOOD_SHAPES)
            moves = [chooser.sample(range(many), chooser.randint(1, many)) for many in shape]
            small = tuple(len(chosen) for chosen in moves)
            hint = Hint(small, [chooser.randint(0, 3) for _ in order(small)[1:]] + [1])
            found = widened(hint, moves, shape)
            self.assertEqual([type(found), found.shape], [Hint, tuple(shape)])
            wanted = {tuple(moves[player][move] for player, move in enumerate(cell)): chance
                      for cell, chance in chances(hint).items()}
            self.assertEqual(chances(found), {cell: wanted.get(cell, 0) for cell in order(shape)})

    def test_all_moves_in_their_order_or_in_another_one(self):
        hint = Hint((2, 2), [1, 2, 3, 4])
        self.same_value([widened(hint, [[0, 1], [0, 1]], [2, 2]) == hint,
                         widened(hint, [[1, 0], [0, 1]], (2, 2)).weights()], [True, [3, 4, 1, 2]])
        self.same_value(widened(Hint([1], [7]), [[3]], [4]).weights(), [0, 0, 0, 1])

    def test_heeded_hints_are_those_of_the_moves_that_are_left(self):
        struck = 0
        for seed, game in enumerate(GAMES + [LATE, EXAMPLE]):
            moves = left(game)
            rest = kept(game, moves)
            chooser = random.Random(seed)
            for goal in [[chooser.randint(-9, 9) for _ in rest] for _ in range(2)]:
                hint = widened(best_hint(rest, goal), moves, game.shape)
                self.assertTrue(heeded(game, hint))
                self.assertIs(is_heeded(game, hint), True)
            for hint in [wide_hint(game), best_hint(game, [chooser.randint(-9, 9) for _ in game])]:
                inside = [cell for cell in order(game.shape)
                          if all(move in moves[player] for player, move in enumerate(cell))]
                self.assertEqual([cell for cell, chance in chances(hint).items() if chance and cell not in inside], [])
                small = Hint(rest.shape, [hint.weights()[order(game.shape).index(
                    tuple(moves[player][move] for player, move in enumerate(cell)))] for cell in order(rest.shape)])
                self.assertTrue(heeded(rest, small))
                self.assertEqual(widened(small, moves, game.shape), hint)
            struck += sum(game.shape) > sum(rest.shape)
        self.assertGreater(struck, 30)

    def test_bad_shapes_come_first(self):
        hint = Hint((1, 2), [1, 3])
        for shape in BAD_SHAPES:
            for moves in [[[1], [1, 0]], None, [[9], [9]]]:
                self.fails(BadShape, {}, widened, hint, moves, shape)

    def test_then_mismatch(self):
        hint = Hint((1, 2), [1, 3])
        for moves in [[], [[1]], [[1], [1, 0], [0]], [[1], [1]], [[1, 0], [1, 0]], [[], [1, 0]], [[1], []],
                      [[9], [9]], [[1], [0, 1, 2]], [1, [1, 0]], [[1], 1], [[1], "10"], [[1], None],
                      [[1], {0: 1, 1: 0}], [None, None], [[9, 9], [True]]] + NO_LISTS:
            self.fails(Mismatch, {}, widened, hint, moves, (3, 2))
        for shape in [(3,), (3, 2, 1), (2,), (1, 2, 1)]:
            self.fails(Mismatch, {}, widened, hint, [[1], [1, 0]], shape)
            self.fails(Mismatch, {}, widened, hint, [[0]] * len(shape), shape)

    def test_then_bad_moves(self):
        hint = Hint((1, 2), [1, 3])
        for wrong in [3, -1, True, False, None, "0", 1.0, (1,), [1], BIG, {}, object()]:
            self.fails(BadMoves, {"player": 0}, widened, hint, [[wrong], [1, 0]], (3, 2))
            self.fails(BadMoves, {"player": 0}, widened, hint, [[wrong], [9, 9]], (3, 2))
            self.fails(BadMoves, {"player": 1}, widened, hint, [[2], [0, wrong]], (3, 2))
        for wrong in [[0, 0], [1, 1], [0, 2], [2, 1]]:
            self.fails(BadMoves, {"player": 1}, widened, hint, [[2], wrong], (3, 2))
        self.fails(BadMoves, {"player": 0}, widened, Hint((2,), [1, 1]), [[0, 1]], [1])

    def test_names_tuples_and_arguments(self):
        hint, moves = Hint((1, 2), [1, 3]), [[1], [1, 0]]
        self.same_value(widened(shape=[3, 2], moves=((1,), (1, 0)), hint=hint).weights(), [0, 0, 3, 1, 0, 0])
        self.same_value([widened(hint, moves, (3, 2)) == widened(hint, moves, (3, 2)), moves, hint.weights()],
                        [True, [[1], [1, 0]], [1, 3]])
        self.assertEqual(widened(sure((1, 1), (0, 0)), [[2], [1]], (3, 2)), sure((3, 2), (2, 1)))


class RulesTest(Case):
    def test_struck_moves_are_told_in_no_heeded_hint(self):
        for game in SMALL_GAMES + LARGE_GAMES:
            hint = wide_hint(game)
            for player, move, _ in strikes(game):
                self.assertEqual(sum(chance for cell, chance in chances(hint).items() if cell[player] == move), 0)

    def test_a_mix_above_a_move_gains_everywhere(self):
        for game in SMALL_GAMES:
            for player, many in enumerate(game.shape):
                for move in range(many):
                    mix = mixture_above(game, player, move)
                    if mix is not None:
                        for cell in order(game.shape):
                            if cell[player] == move:
                                gains = [number * (game[changed(cell, player, each)][player] - game[cell][player])
                                         for each, number in enumerate(mix)]
                                self.assertGreater(sum(gains), 0)


if __name__ == "__main__":
    unittest.main()
