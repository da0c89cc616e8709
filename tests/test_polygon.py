import itertools
import random
import unittest
from fractions import Fraction

from checking import BIG, ODD_VALUES, Case
from everyhint.errors import BadPoint, NotTwo
from everyhint.games import Game, opposed, two
from everyhint.goals import book_for, greatest_mean
from everyhint.hints import Hint, blended, means
from everyhint.opposed import worth
from everyhint.polygon import corner_hints, fence, hint_at, is_fence, payoff_corners
from everyhint.possible import wide_hint
from sums import (DARE, DILEMMA, GAMES, balance_of, drawn, equal_payoffs, heeded, is_book_of, mean_of,
                  opposite, order, pair, worse_moves)

# Its polygon has 34 corners.
ROUND = Game((4, 4), [[-56, 409], [-78, -711], [-114, 78], [-504, -585], [-438, -839], [-250, 383], [-866, 727],
                      [-52, -619], [596, 64], [783, 57], [-743, -793], [-255, 975], [781, -239], [958, 931],
                      [-353, 64], [-636, 353]])
TWO_PLAYERS = [game for game in GAMES if game.players == 2]
TWO_PLAYERS += [drawn(seed, shape, most) for seed in range(20, 24) for shape in [(2, 2), (3, 3), (2, 4), (4, 4)]
                for most in [1, 3, 1000]]
TWO_PLAYERS += [Game(shape, [[payoff, payoff] for payoff, _ in drawn(seed, shape, 5).payoffs()])
                for seed in range(5) for shape in [(2, 2), (3, 3)]]
FREE = two([[(0, 0), (4, 0)], [(0, 4), (4, 4)]])
POINT = ((6, 1), (6, 1))
BAD_RATIOS = [(2, 2), (0, 2), (0, 0), (1, 0), (1, -1), (-1, -1), (4, 6), (-3, 3), (0, -1), (1,), (1, 1, 1), (), [1, 1],
              (True, 1), (1, True), (False, 1), (1.0, 1), (1, 1.0), ("1", 1), (1, None), "11", 1, 0, {1: 1}, ((1, 1),),
              (BIG, BIG)] + ODD_VALUES


def point_of(game, hint):
    return tuple(mean_of(hint, [game[cell][player] for cell in order(game.shape)]) for player in range(2))


def fractions(point):
    return tuple(Fraction(*each) for each in point)


def turned(one, other, third):
    """More than 0 if three points turn to the left, less than 0 if they turn to the right."""
    return (other[0] - one[0]) * (third[1] - one[1]) - (other[1] - one[1]) * (third[0] - one[0])


def fence_sums(game, point, told):
    """The sums of point [112] in all cells."""
    one, other, book = told
    x, y = fractions(point)
    return [one * (game[cell][0] - x) + other * (game[cell][1] - y) + balance_of(game, book, cell)
            for cell in order(game.shape)]


class PolygonCase(Case):
    def most_along(self, game, shares):
        """The greatest sum of shares times mean payoffs of a heeded hint, as evidence shows it."""
        goal = [sum(share * payoff for share, payoff in zip(shares, game[cell])) for cell in order(game.shape)]
        value = Fraction(*greatest_mean(game, goal))
        scale, book = book_for(game, goal)
        self.assertTrue(is_book_of(game, book) and scale >= 1)
        for cell, number in zip(order(game.shape), goal):
            self.assertLessEqual(scale * number + balance_of(game, book, cell), scale * value)
        return value


class CornersTest(PolygonCase):
    def check(self, game):
        """The corners in their order, a heeded hint at each, and nothing beyond any side."""
        corners = payoff_corners(game)
        self.assertEqual([type(corners)] + [type(point) for point in corners], [list] + [tuple] * len(corners))
        points = [fractions(point) for point in corners]
        self.same_value(corners, [tuple(pair(each) for each in point) for point in points])
        hints = corner_hints(game)
        self.assertEqual([type(hints)] + [type(hint) for hint in hints], [list] + [Hint] * len(points))
        for hint, point in zip(hints, points):
            self.assertEqual(hint.shape, game.shape)
            self.assertTrue(heeded(game, hint))
            self.assertEqual(point_of(game, hint), point)
        self.assertEqual(points[0], min(points))
        self.assertEqual(len(set(points)), len(points))
        for one, other, third in zip(points, points[1:] + points[:1], points[2:] + points[:2]):
            if len(points) > 2:
                self.assertGreater(turned(one, other, third), 0)
            beyond = (other[1] - one[1], one[0] - other[0])
            unit = beyond[0].denominator * beyond[1].denominator
            shares = [int(each * unit) for each in beyond]
            self.assertEqual(self.most_along(game, shares), sum(share * each for share, each in zip(shares, one)))
        if len(points) < 3:
            self.is_thin(game, points)
        return corners

    def is_thin(self, game, points):
        """All mean payoffs lie on the segment, or at the point."""
        for shares in [(1, 0), (0, 1), (-1, 0), (0, -1)]:
            most = max(sum(share * each for share, each in zip(shares, point)) for point in points)
            self.assertEqual(self.most_along(game, shares), most)

    def test_example_of_the_interface(self):
        game = two([[(6, 6), (2, 7)], [(7, 2), (0, 0)]])
        self.same_value(payoff_corners(game), [((2, 1), (7, 1)), ((18, 5), (18, 5)), ((7, 1), (2, 1)), ((21, 4), (21, 4))])

    def test_all_games_of_two_players(self):
        many = {}
        for game in TWO_PLAYERS:
            found = len(self.check(game))
            many[found] = many.get(found, 0) + 1
        self.assertGreater(min(many[1], many[2], many[3], many[4]), 1)
        self.assertGreater(max(many), 6)

    def test_many_corners(self):
        self.assertEqual(len(self.check(ROUND)), 34)
        self.assertEqual(len(self.check(ROUND * -1)), len(payoff_corners(-ROUND)))

    def test_points_and_segments(self):
        self.same_value([payoff_corners(DILEMMA), payoff_corners(opposed([[1, -1], [-1, 1]])),
                         payoff_corners(equal_payoffs((4, 4), -1000)), payoff_corners(two([[(1000, -7)]]))],
                        [[((1, 1), (1, 1))], [((0, 1), (0, 1))], [((-1000, 1), (-1000, 1))], [((1000, 1), (-7, 1))]])
        self.same_value(payoff_corners(worse_moves((4, 4))), [((24, 1), (24, 1))])
        # One that rises, one that falls, an upright one and a level one.
        rising, falling = two([[(1, 1), (0, 0)], [(0, 0), (5, 5)]]), two([[(1, 5), (1, 5)], [(1, 5), (1, 5)]])
        self.same_value([payoff_corners(rising), payoff_corners(falling)],
                        [[((5, 6), (5, 6)), ((5, 1), (5, 1))], [((1, 1), (5, 1))]])
        self.same_value(payoff_corners(two([[(3, 2)], [(3, -1)], [(3, 4)]])), [((3, 1), (-1, 1)), ((3, 1), (4, 1))])
        self.same_value(payoff_corners(two([[(2, 3), (-1, 3), (4, 3)]])), [((-1, 1), (3, 1)), ((4, 1), (3, 1))])
        self.same_value(payoff_corners(two([[(7, 0), (3, 0)], [(7, -9), (3, -9)]])), [((3, 1), (-9, 1)), ((7, 1), (-9, 1)),
                                                                                     ((7, 1), (0, 1)), ((3, 1), (0, 1))])

    def test_cells_between_corners_are_no_corners(self):
        self.same_value(payoff_corners(FREE), [((0, 1), (0, 1)), ((4, 1), (0, 1)), ((4, 1), (4, 1)), ((0, 1), (4, 1))])
        # Each player's payoff depends on the moves of the other one alone, so all hints are heeded.
        grid = two([[(2 * column, 3 * row) for column in range(4)] for row in range(4)])
        self.same_value(payoff_corners(grid), [((0, 1), (0, 1)), ((6, 1), (0, 1)), ((6, 1), (9, 1)), ((0, 1), (9, 1))])
        # Whatever cell comes first, an end of a side or one between its ends.
        for rows, columns in itertools.product(itertools.permutations(range(3)), repeat=2):
            mixed = two([[(-column, row) for column in columns] for row in rows])
            self.same_value(payoff_corners(mixed),
                            [((-2, 1), (0, 1)), ((0, 1), (0, 1)), ((0, 1), (2, 1)), ((-2, 1), (2, 1))])
        self.check(grid)

    def test_opposite_payoffs_have_one_point(self):
        for shape in [(2, 2), (3, 4), (4, 4)]:
            game = opposite(3, shape, 1000)
            top, bottom = worth(game)
            self.same_value(payoff_corners(game), [((top, bottom), (-top, bottom))])

    def test_payoffs_that_are_the_same_for_both_give_a_segment(self):
        for seed in range(5):
            game = Game((3, 3), [[payoff, payoff] for payoff, _ in drawn(seed, (3, 3), 9).payoffs()])
            self.assertLessEqual(len(self.check(game)), 2)

    def test_multiples_and_large_numbers(self):
        game = drawn(20, (3, 3), 3)
        wanted = [[pair(Fraction(*each) * BIG) for each in point] for point in payoff_corners(game)]
        self.same_value([list(point) for point in payoff_corners(game * BIG)], wanted)

    def test_ends_soon_at_the_limits(self):
        with self.ends_within(60):
            for game in [ROUND] + [drawn(seed, (4, 4), 1000) for seed in range(5)]:
                for corner in payoff_corners(game)[:3]:
                    hint_at(game, corner)
                corner_hints(game)
                fence(game, ((BIG, BIG - 1), (-BIG, 8)))

    def test_not_two(self):
        for shape, many in [((4,), 1), ((1,), 1), ((2, 2, 2), 3), ((4, 2, 2), 3)]:
            for call, more in [(payoff_corners, []), (corner_hints, []), (hint_at, [POINT]), (fence, [POINT]),
                               (is_fence, [POINT, (1, 1, {})]), (hint_at, [None]), (fence, [((2, 2), (1, 1))]),
                               (is_fence, [5, None])]:
                self.fails(NotTwo, {"players": many}, call, drawn(1, shape, 9), *more)

    def test_names_and_new_values(self):
        first = [payoff_corners(game=DARE), [hint.weights() for hint in corner_hints(game=DARE)]]
        payoff_corners(DARE).clear()
        corner_hints(DARE).clear()
        payoff_corners(ROUND)
        self.same_value([payoff_corners(DARE), [hint.weights() for hint in corner_hints(DARE)]], first)
        self.same_value(DARE.payoffs(), [[6, 6], [2, 7], [7, 2], [0, 0]])


class FenceTest(PolygonCase):
    def check(self, game, point):
        """Just one of the two, and it is right; whether a hint has the point."""
        hint, told = hint_at(game, point), fence(game, point)
        self.assertIs(hint is None, told is not None)
        if hint is not None:
            self.assertEqual([type(hint), hint.shape], [Hint, game.shape])
            self.assertTrue(heeded(game, hint))
            self.assertEqual(point_of(game, hint), fractions(point))
        else:
            self.assertEqual([type(told), len(told), type(told[0]), type(told[1])], [tuple, 3, int, int])
            self.assertTrue(is_book_of(game, told[2]))
            self.assertLess(max(fence_sums(game, point, told)), 0)
            self.assertIs(is_fence(game, point, told), True)
        return hint is not None

    def test_examples_of_the_interface(self):
        game = two([[(6, 6), (2, 7)], [(7, 2), (0, 0)]])
        self.same_value([means(game, hint_at(game, ((5, 1), (5, 1)))), hint_at(game, ((6, 1), (6, 1))),
                         fence(game, ((5, 1), (5, 1)))], [[(5, 1), (5, 1)], None, None])
        self.same_value([is_fence(game, ((6, 1), (6, 1)), fence(game, ((6, 1), (6, 1)))),
                         is_fence(game, ((6, 1), (6, 1)), (1, 1, {}))], [True, False])

    def test_points_drawn(self):
        chooser = random.Random(112)
        counts = {True: 0, False: 0}
        for game in TWO_PLAYERS:
            for _ in range(3):
                point = tuple(pair(Fraction(chooser.randint(-1000, 1000), chooser.choice([1, 7, 250, 10 ** 29])))
                              for _ in range(2))
                counts[self.check(game, point)] += 1
            hints = corner_hints(game) + [wide_hint(game)]
            inside = blended(hints, [chooser.randint(1, 5) for _ in hints])
            self.assertIs(self.check(game, tuple(pair(each) for each in point_of(game, inside))), True)
        self.assertGreater(counts[False], 100)

    def test_corners_sides_and_points_just_outside(self):
        little = Fraction(1, 10 ** 20)
        for game in TWO_PLAYERS[::3] + [ROUND]:
            points = [fractions(point) for point in payoff_corners(game)]
            for one, other in zip(points, points[1:] + points[:1]):
                middle = tuple((mine + theirs) / 2 for mine, theirs in zip(one, other))
                for point in [one, middle]:
                    self.assertIs(self.check(game, tuple(pair(each) for each in point)), True)
            for place, sign in [(0, 1), (0, -1), (1, 1), (1, -1)]:
                extreme = max(points, key=lambda point: sign * point[place])
                moved = [each + sign * little if at == place else each for at, each in enumerate(extreme)]
                self.assertIs(self.check(game, tuple(pair(each) for each in moved)), False)

    def test_edges(self):
        for game, point in [(two([[(1000, -7)]]), ((1000, 1), (-7, 1))), (DILEMMA, ((1, 1), (1, 1)))]:
            self.assertIs(self.check(game, point), True)
        for point in [((999, 1), (-7, 1)), ((1000, 1), (-8, 1)), ((-BIG, 1), (BIG, 1)), ((1, BIG), (-1, BIG))]:
            self.assertIs(self.check(two([[(1000, -7)]]), point), False)
            self.assertIs(self.check(equal_payoffs((4, 4), 1000), point), False)
        self.assertIs(self.check(FREE, ((1, 2), (7, 2))), True)
        self.assertIs(self.check(FREE, ((1, 2), (9, 2))), False)

    def test_bad_points(self):
        self.assertIs(self.check(DARE, ((0, 1), (0, 1))), False)
        bad = [(each, (1, 1)) for each in BAD_RATIOS] + [((1, 1), each) for each in BAD_RATIOS]
        bad += [((1, 1),), ((1, 1), (1, 1), (1, 1)), (), [(1, 1), (1, 1)], (1, 1), "ab", 5, {(1, 1): (1, 2)},
                ((1, 1, 1, 1),)] + ODD_VALUES
        for point in bad:
            self.fails(BadPoint, {}, hint_at, DARE, point)
            self.fails(BadPoint, {}, fence, DARE, point)
            for told in [(1, 1, {}), None]:
                self.fails(BadPoint, {}, is_fence, DARE, point, told)

    def test_names_and_new_values(self):
        self.same_value([hint_at(point=POINT, game=DARE), fence(point=((5, 1), (5, 1)), game=DARE),
                         is_fence(told=fence(DARE, POINT), point=POINT, game=DARE)], [None, None, True])
        wanted = repr(fence(DARE, POINT))
        fence(DARE, POINT)[2].clear()
        fence(DARE, ((0, 1), (0, 1)))
        self.assertEqual(repr(fence(DARE, POINT)), wanted)
        self.assertEqual(hint_at(DARE, ((5, 1), (5, 1))), hint_at(DARE, ((5, 1), (5, 1))))


class IsFenceTest(PolygonCase):
    def setUp(self):
        self.told = fence(DARE, POINT)

    def says(self, wanted, told, point=POINT):
        self.assertIs(is_fence(DARE, point, told), wanted)

    def test_multiples_and_the_order_of_the_keys(self):
        one, other, book = self.told
        self.says(True, (one * BIG, other * BIG, {bet: amount * BIG for bet, amount in book.items()}))
        self.says(True, (one, other, dict(reversed(list(book.items())))))
        self.says(False, (one, other, {}))
        self.says(False, (-one, -other, book))

    def test_a_sum_of_0_is_not_below_0(self):
        self.says(True, (1, 1, {}), ((20, 1), (20, 1)))
        self.says(True, (1, 0, {}), ((29, 4), (0, 1)))
        self.says(False, (1, 0, {}), ((7, 1), (0, 1)))
        self.says(True, (-1, 0, {}), ((-1, BIG), (0, 1)))
        self.says(False, (-1, 0, {}), ((0, 1), (0, 1)))
        self.says(False, (0, 0, {}))

    def test_both_coordinates_count_with_their_own_bottoms(self):
        for point, told in [(((7, 2), (20, 3)), (2, 3, {})), (((1, 5), (-1, 7)), (-5, -1, {})),
                            (((1, 5), (-1, 7)), (-1, -5, {})), (((-1, 7), (1, 5)), (0, -1, {}))]:
            self.says(max(fence_sums(DARE, point, told)) < 0, told, point)

    def test_by_its_definition(self):
        chooser = random.Random(112)
        counts = {True: 0, False: 0}
        for game in TWO_PLAYERS:
            for _ in range(4):
                point = tuple(pair(Fraction(chooser.randint(-30, 30), chooser.randint(1, 3))) for _ in range(2))
                told = fence(game, point)
                if told is None:
                    told = (chooser.randint(-2, 2), chooser.randint(-2, 2), {})
                one, other, book = told
                book = {bet: amount + chooser.choice([0, 0, 1]) for bet, amount in book.items()}
                told = (one + chooser.choice([-1, 0, 0, 1]), other, book)
                wanted = max(fence_sums(game, point, told)) < 0
                self.assertIs(is_fence(game, point, told), wanted)
                counts[wanted] += 1
        self.assertGreater(min(counts.values()), 30)

    def test_values_that_are_no_fences(self):
        one, other, book = self.told
        for told in [(one, other), (one, other, book, book), [one, other, book], (one, book), (book, one, other),
                     (True, other, book), (one, False, book), (None, other, book), (float(one), other, book),
                     (one, str(other), book), ((one,), other, book)]:
            self.says(False, told)
        for told in ODD_VALUES + [5]:
            self.says(False, told)
            if told != {}:
                self.says(False, (1, 1, told), ((20, 1), (20, 1)))
        for wrong in [{(0, 0, 0): 1}, {(2, 0, 1): 1}, {(0, 0, 2): 1}, {(0, 0, 1): 0}, {(0, 0, 1): -1}, {(0, 0, 1): True},
                      {(0, 0, 1): 1.0}, {(0, 0): 1}, {0: 1}, {(0, 0, True): 1}, [(0, 0, 1)], {(0, 0, 1)}]:
            self.says(False, (1, 1, wrong), ((20, 1), (20, 1)))


class ShapesTest(PolygonCase):
    def test_all_shapes_of_two_players(self):
        for rows in range(1, 5):
            for columns in range(1, 5):
                game = drawn(6, (rows, columns), 9)
                for corner in payoff_corners(game):
                    self.assertIsNone(fence(game, corner))


if __name__ == "__main__":
    unittest.main()
