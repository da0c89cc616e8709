import itertools
import math
import random
import unittest
from fractions import Fraction

from checking import BIG, NO_LISTS, ODD_VALUES, Case
from everyhint.errors import BadRows
from everyhint.games import balance_row, bets
from everyhint.programs import greatest, is_answer
from sums import DARE, EDGE_GAMES, LARGE_GAMES, drawn, pair

# On these rows some ways to choose the next step go round in a circle: the first column that lowers
# the bound or the one that lowers it most, with the first or the last line of those that tie.
CIRCLES = [
    [[-4, 7, -6], [0, 8, 8], [-7, 3, -3], [-5, -4, 0], [9, 5, 4]],
    [[-3, -4, -4, 9], [6, 3, -8, 4], [-5, 5, -1, -4]],
    [[-6, 0, 4, 0], [-7, -5, -6, -2], [9, 4, 2, 3], [-7, -7, -3, 6]],
    [[-1, 2, -2], [4, -4, -3], [-3, -2, 3]],
    [[8, -6, 5, 8], [0, -9, 0, 8], [7, -1, 9, -3], [2, -7, -1, -9], [-5, 7, -8, -3]],
    [[-2, 1, 1, 1, 2], [-2, -2, 0, -2, 1], [1, 0, 2, -2, -1], [-2, -2, 0, 1, -1], [-2, -1, 0, -2, -2]],
    [[-8, -9, 0, -4, 3], [9, 9, 8, -9, 6], [0, 9, 4, 9, -1], [-7, 4, -6, 8, -5], [-2, 5, 4, -9, 3],
     [-4, -3, -1, -2, 6]],
    [[1, -12, -9, 8], [13, 12, 20, 15], [-18, 11, -14, 11], [-13, 15, -6, -17], [17, -16, 0, 14],
     [12, 16, -20, -18]],
    [[-7, -3, -10, -9, -14], [9, 3, -1, -12, 15], [-20, -20, -20, -16, 1], [-5, 2, -19, 9, 8],
     [-16, -19, -4, -3, 18], [-16, 17, 19, -12, -18]],
]
# Known programs (of Beale, Chvatal and Kuhn) on which the simplex method may go round in a circle:
# gains, lines and limits, to be put into rows in two ways.
KNOWN = [
    ([75, -15000, 2, -600], [[25, -6000, -4, 900], [50, -9000, -2, 300], [0, 0, 1, 0]], [0, 0, 1]),
    ([3, -80, 2, -24], [[1, -32, -4, 36], [1, -24, -1, 6], [0, 0, 1, 0]], [0, 0, 1]),
    ([10, -57, -9, -24], [[1, -11, -5, 18], [1, -3, -1, 2], [1, 0, 0, 0]], [0, 0, 1]),
    ([2, 3, -1, -12], [[-2, -9, 1, 9], [1, 3, -1, -6], [2, 3, -1, -12]], [0, 0, 2]),
]
SIX_DIGITS = 999999


def on_amounts(gains, lines, limits, factor):
    """The rows and the goal whose amounts are the unknowns of a program."""
    top = factor * max(limits)
    rows = [[-gain] + [factor * line[index] - gain for line in lines] for index, gain in enumerate(gains)]
    return rows, [top] + [top - factor * limit for limit in limits]


def on_mixes(gains, lines, limits):
    """The rows and the goal whose mixes are the unknowns of a program."""
    return [[-each for each in line] + [limit] for line, limit in zip(lines, limits)], gains + [0]


def total(rows, amounts, index):
    return sum(amount * row[index] for row, amount in zip(rows, amounts))


def under(row, mix):
    return Fraction(sum(number * weight for number, weight in zip(row, mix)), sum(mix))


def drawn_rows(chooser, many, width, most):
    return [[chooser.randint(-most, most) for _ in range(width)] for _ in range(many)]


def turned(rows, mix):
    """The rows, each one multiplied by -1 if its mean under a mix is below 0."""
    return [[-each for each in row] if under(row, mix) < 0 else row for row in rows]


class ProgramCase(Case):
    def all_integers(self, numbers, many):
        self.assertIs(type(numbers), list)
        self.assertEqual([type(each) for each in numbers], [int] * many)
        self.assertGreaterEqual(min(numbers, default=0), 0)

    def check(self, rows, goal, word=None):
        """The answer is one of the two forms, and all that point [52] says of it holds."""
        answer = greatest(rows, goal)
        self.assertIs(type(answer), tuple)
        if word is not None:
            self.assertEqual(answer[0], word)
        if answer[0] == "none":
            self.assertEqual(len(answer), 2)
            amounts = answer[1]
            self.all_integers(amounts, len(rows))
            self.assertTrue(all(total(rows, amounts, index) < 0 for index in range(len(goal))))
            self.assertEqual(math.gcd(*amounts), 1)
        else:
            self.assertEqual([len(answer), answer[0]], [5, "best"])
            self.check_best(rows, goal, *answer[1:])
        self.assertIs(is_answer(rows, goal, answer), True)
        return answer

    def check_best(self, rows, goal, mix, value, scale, amounts):
        self.all_integers(mix, len(goal))
        self.all_integers([scale] + amounts, len(rows) + 1)
        self.assertGreaterEqual(scale, 1)
        self.assertTrue(all(under(row, mix) >= 0 for row in rows))
        self.same_value(value, pair(under(goal, mix)))
        for index, number in enumerate(goal):
            self.assertLessEqual(number * scale + total(rows, amounts, index), scale * Fraction(*value))
        self.assertEqual([math.gcd(*mix), math.gcd(scale, *amounts)], [1, 1])


class GreatestTest(ProgramCase):
    def test_examples_of_the_interface(self):
        self.same_value(greatest([[1, -1, 0], [0, 1, -1]], [0, 0, 3]), ("best", [1, 1, 1], (1, 1), 1, [1, 2]))
        self.same_value([greatest([[-2, 1], [1, -1]], [5, 0])[0],
                         is_answer([[-2, 1], [1, -1]], [5, 0], ("none", [2, 3]))], ["none", True])
        self.same_value([is_answer([[1, -1]], [0, 1], ("best", [1, 1], (1, 2), 2, [1])),
                         is_answer([], [4, 7], ("best", [1, 0], (4, 1), 1, []))], [True, False])

    def test_no_rows(self):
        self.same_value(greatest([], [4, 7, -2]), ("best", [0, 1, 0], (7, 1), 1, []))
        self.same_value(greatest([], [-4]), ("best", [1], (-4, 1), 1, []))
        for goal in [[0], [5, 5, 5], [-3, -3], [BIG, 0]]:
            self.check([], goal, "best")

    def test_a_single_column(self):
        self.same_value(greatest([[0], [3]], [7]), ("best", [1], (7, 1), 1, [0, 0]))
        self.same_value(greatest([[-2]], [7]), ("none", [1]))
        self.same_value(greatest([[5], [-2], [0]], [7]), ("none", [0, 1, 0]))

    def test_rows_without_an_item_above_0(self):
        self.check([[-1, -1, -1]], [1, 2, 3], "none")
        self.check([[-1, -2, -1], [0, 0, 5]], [1, 2, 3], "none")
        answer = self.check([[-1, 0, -4], [0, 0, 0]], [9, 2, 9], "best")
        self.same_value(answer[1:3], ([0, 1, 0], (2, 1)))
        self.check([[0, 0]], [1, 1], "best")

    def test_rows_that_are_the_negatives_of_others(self):
        rows = [[1, -2, 0], [-1, 2, 0]]
        self.same_value(self.check(rows, [0, 3, 0], "best")[1:3], ([2, 1, 0], (1, 1)))
        self.same_value(self.check(rows, [0, 0, -1], "best")[1:3], ([2, 1, 0], (0, 1)))
        self.check([[1, -2], [-1, 2], [-1, 1]], [1, 1], "none")
        chooser = random.Random(1)
        for _ in range(60):
            rows = drawn_rows(chooser, chooser.randint(1, 6), chooser.randint(1, 8), 4)
            rows += [[-each for each in row] for row in rows]
            self.check(rows, [chooser.randint(-4, 4) for _ in rows[0]])

    def test_rows_that_are_sums_of_others_and_rows_twice(self):
        chooser = random.Random(2)
        for _ in range(60):
            rows = drawn_rows(chooser, 3, chooser.randint(2, 9), 5)
            rows += [[sum(column) for column in zip(*rows)], [one + other for one, other in zip(*rows[:2])], rows[0]]
            self.check(rows, [chooser.randint(-4, 4) for _ in rows[0]])

    def test_goals_that_are_the_same_everywhere(self):
        chooser = random.Random(3)
        for number in [0, 5, -5, SIX_DIGITS, -SIX_DIGITS]:
            for width in [1, 4, 16]:
                rows = drawn_rows(chooser, 8, width, 6)
                answer = self.check(turned(rows, [1 + index for index in range(width)]), [number] * width, "best")
                self.same_value(answer[2], (number, 1))
                self.check(rows, [number] * width)

    def test_small_rows_all_of_them(self):
        numbers = list(itertools.product([-1, 0, 2], repeat=2))
        for rows in itertools.product(numbers, repeat=2):
            for goal in numbers:
                answer = self.check(rows, goal)
                mixes = [(0, 1), (1, 0), (1, 1), (1, 2), (2, 1)]
                means = [under(goal, mix) for mix in mixes if all(under(row, mix) >= 0 for row in rows)]
                # The corners of the allowed mixes are among these mixes.
                self.assertEqual(answer[0], "best" if means else "none")
                if means:
                    self.same_value(answer[2], pair(max(means)))

    def test_drawn_rows(self):
        chooser = random.Random(4)
        words = []
        for _ in range(400):
            width = chooser.randint(1, 16)
            rows = drawn_rows(chooser, chooser.randint(0, 20), width, chooser.choice([1, 3, 1000]))
            goal = [chooser.randint(-9, 9) for _ in range(width)]
            words.append(self.check(rows, goal)[0])
            mix = [chooser.randint(0, 4) for _ in range(width - 1)] + [1]
            self.check(turned(rows, mix), goal, "best")
        self.assertGreater(min(words.count("best"), words.count("none")), 50)

    def test_rows_of_games(self):
        for game in [DARE] + EDGE_GAMES + LARGE_GAMES:
            rows = [balance_row(game, bet) for bet in bets(game)]
            goals = [[payoff[0] for payoff in game.payoffs()], [index % 3 for index in range(len(game))]]
            for goal in goals:
                self.check(rows, goal, "best")

    def test_circles(self):
        with self.ends_within(20):
            for rows in CIRCLES:
                for goal in [[0] * len(rows[0]), [7] * len(rows[0]), rows[0], [-each for each in rows[0]]]:
                    for turn in itertools.permutations(rows) if len(rows) < 6 else [rows, rows[::-1]]:
                        self.check(list(turn), goal)

    def test_known_circles(self):
        with self.ends_within(20):
            for gains, lines, limits in KNOWN:
                for factor in [1, 10, 60]:
                    self.check(*on_amounts(gains, lines, limits, factor))
                self.check(*on_mixes(gains, lines, limits))

    def test_ends_soon_at_the_limits(self):
        chooser = random.Random(5)
        mix = [chooser.randint(0, 9) for _ in range(16)]
        with self.ends_within(60):
            for most in [1, SIX_DIGITS]:
                for _ in range(10):
                    rows = drawn_rows(chooser, 40, 16, most)
                    for goal in [[0] * 16, [1] + [0] * 15, [chooser.randint(-most, most) for _ in range(16)]]:
                        self.check(rows, goal)
                        self.check(turned(rows, mix), goal, "best")
                        self.check(rows[:20] + [[-each for each in row] for row in rows[:20]], goal)

    def test_ends_soon_where_each_step_lowers_the_bound_a_little(self):
        # Cubes of Klee and Minty, whose corners many rules for the steps visit one after another.
        with self.ends_within(60):
            for many in range(2, 13):
                gains = [3 ** index for index in range(many)]
                lines = [[2 * 3 ** index if index < at else 3 ** at if index == at else 0 for index in range(many)]
                         for at in range(many)]
                rows, goal = on_amounts(gains, lines, gains, 1)
                self.check(rows, goal, "best")
                self.check(rows[::-1], goal, "best")

    def test_numbers_beyond_the_limits(self):
        game = drawn(1, (4, 4), 1000) * BIG + drawn(2, (4, 4), 1000)
        with self.ends_within(60):
            self.check([balance_row(game, bet) for bet in bets(game)], [1] + [0] * 15, "best")
        self.check([[BIG, -1]], [-1, BIG], "best")
        self.check([[-BIG, -1]], [-1, BIG], "none")

    def test_tuples_names_arguments_and_new_lists(self):
        rows, goal = [[1, -1, 0], [0, 1, -1]], [0, 0, 3]
        wanted = ("best", [1, 1, 1], (1, 1), 1, [1, 2])
        self.same_value(greatest(goal=goal, rows=rows), wanted)
        self.same_value(greatest(((1, -1, 0), (0, 1, -1)), (0, 0, 3)), wanted)
        found = greatest(rows, goal)
        found[1].clear()
        found[4].clear()
        greatest([[5, -7]], [1, 2])
        self.same_value(greatest(rows, goal), wanted)
        self.same_value([rows, goal], [[[1, -1, 0], [0, 1, -1]], [0, 0, 3]])
        self.same_value(greatest(((-1, -1),), (0, 0)), greatest([[-1, -1]], [0, 0]))


class IsAnswerTest(ProgramCase):
    ROWS, GOAL = [[1, -1, 0], [0, 1, -1]], [0, 0, 3]

    def says(self, wanted, answer, rows=None, goal=None):
        self.assertIs(is_answer(rows or self.ROWS, goal or self.GOAL, answer), wanted, answer)

    def test_common_divisors_do_not_count(self):
        self.says(True, ("best", [4, 4, 4], (1, 1), 1, [1, 2]))
        self.says(True, ("best", [1, 1, 1], (1, 1), 3, [3, 6]))
        self.assertIs(is_answer([[-2, 1], [1, -1]], [5, 0], ("none", [20, 30])), True)

    def test_wrong_mixes(self):
        wrong = [[], [1], [1, 1], [1, 1, 1, 1], [0, 0, 0], [1, 1, -1], [-1, -1, -1], [1, 2, 0], [1, 0, 1], [3, 2, 1],
                 [1, 0, 0], [0, 0, 1], [2, 1, 2]]
        for mix in wrong:
            self.says(False, ("best", mix, (1, 1), 1, [1, 2]))

    def test_wrong_values(self):
        for value in [(0, 1), (2, 1), (-1, 1), (1, 2), (3, 2), (BIG - 1, BIG), (BIG + 1, BIG)]:
            self.says(False, ("best", [1, 1, 1], value, 1, [1, 2]))

    def test_a_mix_with_a_lesser_mean(self):
        self.says(False, ("best", [2, 1, 1], (3, 4), 1, [1, 2]))
        self.says(False, ("best", [1, 0, 0], (0, 1), 1, [1, 2]))

    def test_wrong_scales(self):
        for scale in [0, -1, -3, 2, BIG]:
            self.says(False, ("best", [1, 1, 1], (1, 1), scale, [1, 2]))
        self.assertIs(is_answer([], [0, 0], ("best", [1, 1], (0, 1), 0, [])), False)
        self.assertIs(is_answer([], [0, 0], ("best", [1, 1], (0, 1), BIG, [])), True)
        self.assertIs(is_answer([], [5], ("best", [1], (5, 1), -1, [])), False)

    def test_true_and_false_are_no_integers(self):
        self.says(False, ("best", [1, 1, 1], (1, 1), True, [1, 2]))
        self.says(False, ("best", [1, 1, True], (1, 1), 1, [1, 2]))
        self.says(False, ("best", [1, 1, 1], (1, 1), 1, [True, 2]))
        self.assertIs(is_answer([[-1]], [1], ("none", [True])), False)

    def test_tuples_of_other_forms(self):
        right = ("best", [1, 1, 1], (1, 1), 1, [1, 2])
        for answer in [(), ("best",), right[:4], right + (1,), ("none",) + right[1:], ("some",) + right[1:], right[1:]]:
            self.says(False, answer)
        rows, goal = [[-2, 1], [1, -1]], [5, 0]
        for answer in [("none",), ("best", [2, 3]), ("some", [2, 3]), ("none", [2, 3], 1), ([2, 3], "none")]:
            self.says(False, answer, rows, goal)

    def test_wrong_amounts(self):
        for amounts in [[], [1], [1, 2, 0], [0, 2], [2, 2], [1, 1], [1, 3], [-1, 2], [1, -2], [0, 0]]:
            self.says(False, ("best", [1, 1, 1], (1, 1), 1, amounts))
        self.assertIs(is_answer([[0, 0]], [1, 1], ("best", [1, 0], (1, 1), 1, [-1])), False)
        self.assertIs(is_answer([[0, 0]], [1, 1], ("best", [1, 0], (1, 1), 1, [BIG])), True)

    def test_amounts_need_not_be_tight(self):
        self.assertIs(is_answer([[-1, -2], [1, 1]], [4, 3], ("none", [1, 0])), True)
        self.assertIs(is_answer([[0, -1]], [4, 3], ("best", [1, 0], (4, 1), 1, [5])), True)

    def test_negative_values_and_bottoms(self):
        rows, goal = [[2, -1]], [-5, -2]
        self.same_value(self.check(rows, goal)[1:3], ([1, 2], (-3, 1)))
        self.says(True, ("best", [1, 2], (-3, 1), 1, [1]), rows, goal)
        self.says(False, ("best", [1, 2], (3, 1), 1, [1]), rows, goal)
        rows, goal = [[1, -2]], [0, 1]
        self.says(True, ("best", [2, 1], (1, 3), 3, [1]), rows, goal)
        self.says(False, ("best", [2, 1], (1, 3), 1, [1]), rows, goal)

    def test_amounts_for_none(self):
        rows, goal = [[-2, 1], [1, -1]], [5, 0]
        for amounts in [[], [2], [2, 3, 0], [0, 0], [1, 1], [1, 2], [-2, -3], [2, -3], [3, 2]]:
            self.says(False, ("none", amounts), rows, goal)
        for amounts in [[2, 3], [3, 4], [3, 5], [BIG, BIG + 1]]:
            self.says(True, ("none", amounts), rows, goal)
        self.assertIs(is_answer([], [1], ("none", [])), False)
        self.says(False, ("none", [1, 2]))

    def test_the_other_form_is_wrong(self):
        chooser = random.Random(6)
        for _ in range(100):
            rows = drawn_rows(chooser, 4, 4, 5)
            goal = [chooser.randint(-5, 5) for _ in range(4)]
            amounts = [chooser.randint(0, 5) for _ in range(4)]
            if greatest(rows, goal)[0] == "best":
                self.says(False, ("none", amounts), rows, goal)
            else:
                mix = [chooser.randint(0, 5) for _ in range(3)] + [1]
                self.says(False, ("best", mix, pair(under(goal, mix)), 1, amounts), rows, goal)

    def test_answers_by_their_definition(self):
        chooser = random.Random(7)
        counts = {True: 0, False: 0}
        for _ in range(600):
            rows, goal = drawn_rows(chooser, 2, 3, 2), [chooser.randint(-2, 2) for _ in range(3)]
            _, *rest = answer = greatest(rows, goal)
            lists = [each for each in rest if isinstance(each, list)]
            changed = chooser.choice(lists)
            changed[chooser.randrange(len(changed))] += chooser.choice([-1, 0, 1])
            if answer[0] == "none":
                wanted = min(answer[1]) >= 0 and all(total(rows, answer[1], index) < 0 for index in range(3))
            else:
                mix, value, scale, amounts = rest
                wanted = (min(mix + amounts) >= 0 and sum(mix) > 0 and all(under(row, mix) >= 0 for row in rows)
                          and under(goal, mix) == Fraction(*value)
                          and all(goal[index] * scale + total(rows, amounts, index) <= scale * Fraction(*value)
                                  for index in range(3)))
            self.assertIs(is_answer(rows, goal, answer), wanted)
            counts[wanted] += 1
        self.assertGreater(min(counts.values()), 100)

    def test_tuples_and_names(self):
        answer = ("best", (1, 1, 1), (1, 1), 1, (1, 2))
        self.assertIs(is_answer(answer=answer, goal=(0, 0, 3), rows=((1, -1, 0), (0, 1, -1))), True)
        self.assertIs(is_answer([[-2, 1], [1, -1]], (5, 0), ("none", (2, 3))), True)


class WrongTest(Case):
    GOOD = ("best", [1, 1], (0, 1), 1, [])

    def refused(self, rows, goal):
        self.fails(BadRows, {}, greatest, rows, goal)
        self.fails(BadRows, {}, is_answer, rows, goal, self.GOOD)
        self.fails(BadRows, {}, is_answer, rows, goal, ("none", [1]))

    def test_wrong_goals(self):
        wrong = [[], (), [True], [0, False], [None, 1], [1.0], ["1"], [[1]], [(1, 2)], "12", {0: 1}, {1, 2}, 5]
        for goal in wrong + ODD_VALUES:
            self.refused([], goal)
            self.refused([[1, 2]], goal)
            self.refused(None, goal)

    def test_wrong_rows(self):
        wrong = [[], [1], [1, 2, 3], [1, True], [False, 1], [1, None], [1.0, 1], ["1", 1], [[1], 1], [(1, 2)], "12",
                 {0: 1, 1: 2}, {1, 2}, 12]
        for row in wrong + ODD_VALUES:
            self.refused([row], [1, 2])
            self.refused([[3, 4], row], [1, 2])
            self.refused([row, [3, 4]], [1, 2])

    def test_rows_that_are_no_list(self):
        for rows in NO_LISTS + ["", "12", {0: [1, 2]}, 5, [1, 2], (1, 2)]:
            self.refused(rows, [1, 2])

    def test_no_rows_and_tuples_are_right(self):
        self.assertEqual(greatest((), (1, 2))[0], "best")
        self.assertIs(is_answer((), (1, 2), ("best", (0, 1), (2, 1), 1, ())), True)


if __name__ == "__main__":
    unittest.main()
