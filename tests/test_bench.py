import random
import unittest

from checking import BIG, Case
from everyhint.bench import Bench
from everyhint.compared import groups_same, same_hints
from everyhint.errors import (BadMoves, BadName, Mismatch, NameTaken, NothingToRedo, NothingToUndo, NoCell,
                              UnknownName)
from everyhint.games import Game, kept, opposed, two
from everyhint.possible import possible_cells
from everyhint.struck import left
from sums import DARE, DILEMMA, LARGE_GAMES, SHAPES, drawn, equal_payoffs, worse_moves

BAD_NAMES = ["", "ninechars", "abcdefghi", "A", "Dare", "a1", "1", "a b", " a", "a ", "a_b", "a-b", "a\n", "\n", "'", "ABC",
             None, True, False, 0, 1.0, b"a", (), ("a",), ["a"], [], {}, {"a": 1}, {"a"}, object()]
UNKNOWN = ["x", "", "Dare", "dar", "dares", "ninechars"] + [name for name in BAD_NAMES if not isinstance(name, str)]


def filled(**games):
    bench = Bench()
    for name, game in games.items():
        bench.put(name, game)
    return bench


def state(bench):
    """All that can be seen of a bench."""
    return [[(name, bench[name].shape, bench[name].payoffs()) for name in bench.names()], len(bench), bench.undos,
            bench.redos]


def history(bench):
    """What can be seen of a bench, and of it behind each change taken back and done again."""
    found = [state(bench)]
    with bench.trial():
        while bench.undos:
            bench.undo()
            found.append(state(bench))
    with bench.trial():
        while bench.redos:
            bench.redo()
            found.append(state(bench))
    return found


class BenchCase(Case):
    def changes_nothing(self, bench, error, attributes, call, *args):
        before = history(bench)
        self.fails(error, attributes, call, *args)
        self.assertEqual(history(bench), before)

    def is_one_change(self, bench, call, *args, **more):
        """A call returns None and can be taken back and done again, as one change."""
        before = state(bench)
        self.assertIsNone(call(*args, **more))
        after = state(bench)
        self.assertEqual(after[2:], [before[2] + 1, 0])
        self.assertIsNone(bench.undo())
        self.assertEqual(state(bench), before[:3] + [1])
        self.assertIsNone(bench.redo())
        self.assertEqual(state(bench), after)


class PutTest(BenchCase):
    def test_examples_of_the_interface(self):
        bench = Bench()
        bench.put("dare", two([[(6, 6), (2, 7)], [(7, 2), (0, 0)]]))
        bench.put("dilemma", two([[(3, 3), (0, 5)], [(5, 0), (1, 1)]]))
        bench.join("sum", "dare", "dare")
        self.same_value([bench.names(), bench.possible("dilemma"), bench.same("dare", "sum"), bench.groups()],
                        [["dare", "dilemma", "sum"], [(1, 1)], True, [["dare", "sum"], ["dilemma"]]])
        self.same_value([bench.tried(["dilemma"], lambda b: [b.strike("dilemma"), b["dilemma"].payoffs()]),
                         len(bench["dilemma"]), bench.undos], [[None, [[1, 1]]], 4, 3])

    def test_a_bench_without_a_game(self):
        bench = Bench()
        self.same_value([len(bench), bench.names(), bench.groups(), bench.undos, bench.redos, "a" in bench],
                        [0, [], [], 0, 0, False])

    def test_names_in_order_and_games(self):
        bench = filled(b=DARE, abcdefgh=DILEMMA, a=DARE, z=LARGE_GAMES[0])
        self.same_value([bench.names(), len(bench), bench.undos], [["a", "abcdefgh", "b", "z"], 4, 4])
        for name, game in [("b", DARE), ("abcdefgh", DILEMMA), ("a", DARE), ("z", LARGE_GAMES[0])]:
            self.assertEqual([name in bench, bench[name]], [True, game])
        for name in UNKNOWN:
            self.assertIs(name in bench, False)
            with self.assertRaises(UnknownName) as caught:
                bench[name]
            self.assertIs(caught.exception.name, name)

    def test_a_bench_is_not_iterated_over(self):
        with self.assertRaises(TypeError):
            list(filled(a=DARE))

    def test_put_is_one_change(self):
        bench = filled(b=DARE)
        self.is_one_change(bench, bench.put, "a", DILEMMA)
        self.is_one_change(bench, bench.put, game=DILEMMA, name="abcdefgh")

    def test_errors_of_put(self):
        bench = filled(a=DARE, b=DILEMMA)
        bench.undo()
        for name in BAD_NAMES:
            self.changes_nothing(bench, BadName, {"name": name}, bench.put, name, DILEMMA)
        self.changes_nothing(bench, NameTaken, {"name": "a"}, bench.put, "a", DILEMMA)
        self.changes_nothing(bench, NameTaken, {"name": "a"}, bench.put, "a", DARE)

    def test_returned_lists_are_new(self):
        bench = filled(a=DARE, b=DARE)
        bench.names().clear()
        bench.groups()[0].clear()
        bench.groups().clear()
        bench.possible("a").clear()
        bench["a"].payoffs().clear()
        self.same_value([bench.names(), bench.groups(), len(bench.possible("a")), bench["a"] == DARE],
                        [["a", "b"], [["a", "b"]], 4, True])

    def test_benches_are_apart(self):
        one, other = filled(a=DARE), Bench()
        other.put("b", DILEMMA)
        one.undo()
        self.same_value([one.names(), other.names(), one.redos, other.undos], [[], ["b"], 1, 1])


class ChangesTest(BenchCase):
    def setUp(self):
        self.bench = filled(dare=DARE, dilemma=DILEMMA, wide=drawn(1, (2, 4), 9))

    def test_join(self):
        self.is_one_change(self.bench, self.bench.join, "sum", "dare", "dilemma")
        self.assertEqual(self.bench["sum"], DARE + DILEMMA)
        self.is_one_change(self.bench, self.bench.join, other="wide", one="wide", new="more")
        self.assertEqual(self.bench["more"], drawn(1, (2, 4), 9) * 2)

    def test_errors_of_join(self):
        join = self.bench.join
        for name in UNKNOWN:
            self.changes_nothing(self.bench, UnknownName, {"name": name}, join, "Bad", name, "x")
            self.changes_nothing(self.bench, UnknownName, {"name": name}, join, "dare", "dare", name)
        for name in BAD_NAMES:
            self.changes_nothing(self.bench, BadName, {"name": name}, join, name, "dare", "wide")
        self.changes_nothing(self.bench, NameTaken, {"name": "dare"}, join, "dare", "dare", "wide")
        self.changes_nothing(self.bench, Mismatch, {}, join, "new", "dare", "wide")

    def test_scale(self):
        for factor in [3, 0, -1, 1, BIG]:
            bench = filled(dare=DARE)
            self.is_one_change(bench, bench.scale, factor=factor, name="dare")
            self.assertEqual(bench["dare"], DARE * factor)

    def test_keep(self):
        self.is_one_change(self.bench, self.bench.keep, "wide", [[1], [3, 0]])
        self.assertEqual(self.bench["wide"], kept(drawn(1, (2, 4), 9), [[1], [3, 0]]))
        self.is_one_change(self.bench, self.bench.keep, moves=((0,), (1,)), name="wide")

    def test_errors_of_keep(self):
        keep = self.bench.keep
        self.changes_nothing(self.bench, UnknownName, {"name": "x"}, keep, "x", None)
        for moves in [[], [[0]], [[0], [0], [0]], None, [0, 1]]:
            self.changes_nothing(self.bench, Mismatch, {}, keep, "dare", moves)
        for moves, player in [([[], [0]], 0), ([[0], []], 1), ([[2], [0]], 0), ([[0], [1, 1]], 1), ([[True], [0]], 0)]:
            self.changes_nothing(self.bench, BadMoves, {"player": player}, keep, "dare", moves)

    def test_strike(self):
        games = [DARE, DILEMMA] + [worse_moves(shape) for shape in SHAPES] + [drawn(2, shape, 3) for shape in SHAPES]
        for game in games:
            bench = filled(g=game)
            self.is_one_change(bench, bench.strike, name="g")
            self.assertEqual(bench["g"], kept(game, left(game)))
        self.bench.strike("dilemma")
        self.same_value(self.bench["dilemma"].payoffs(), [[1, 1]])

    def test_rename(self):
        self.is_one_change(self.bench, self.bench.rename, "dare", "a")
        self.same_value([self.bench.names(), self.bench["a"] == DARE], [["a", "dilemma", "wide"], True])
        self.is_one_change(self.bench, self.bench.rename, new="a", name="a")
        self.is_one_change(self.bench, self.bench.rename, "a", "abcdefgh")
        self.same_value(self.bench.names(), ["abcdefgh", "dilemma", "wide"])

    def test_errors_of_rename(self):
        rename = self.bench.rename
        for name in BAD_NAMES:
            self.changes_nothing(self.bench, UnknownName, {"name": "x"}, rename, "x", name)
            self.changes_nothing(self.bench, BadName, {"name": name}, rename, "dare", name)
        self.changes_nothing(self.bench, NameTaken, {"name": "wide"}, rename, "dare", "wide")
        self.changes_nothing(self.bench, UnknownName, {"name": "x"}, rename, "x", "wide")

    def test_drop(self):
        self.is_one_change(self.bench, self.bench.drop, "dare")
        self.is_one_change(self.bench, self.bench.drop, name="wide")
        self.same_value([self.bench.names(), len(self.bench), "dare" in self.bench], [["dilemma"], 1, False])
        self.bench.put("dare", DILEMMA)
        self.assertEqual(self.bench["dare"], DILEMMA)

    def test_unknown_names(self):
        for name in UNKNOWN:
            for call, more in [(self.bench.scale, [2]), (self.bench.keep, [[[0], [0]]]), (self.bench.strike, []),
                               (self.bench.rename, ["new"]), (self.bench.drop, []), (self.bench.possible, []),
                               (self.bench.same, ["y"])]:
                self.changes_nothing(self.bench, UnknownName, {"name": name}, call, name, *more)
            self.changes_nothing(self.bench, UnknownName, {"name": name}, self.bench.same, "dare", name)

    def test_calls_that_leave_the_games_as_they_are_are_changes(self):
        bench = filled(dare=DARE)
        bench.scale("dare", 1)
        bench.keep("dare", [[0, 1], [0, 1]])
        bench.strike("dare")
        bench.rename("dare", "dare")
        self.same_value([bench.undos, bench["dare"] == DARE], [5, True])

    def test_a_list_that_was_passed_may_be_changed(self):
        moves = [[1], [3, 0]]
        self.bench.keep("wide", moves)
        moves[1].clear()
        self.same_value([self.bench["wide"].shape, moves], [(1, 2), [[1], []]])


class UndoTest(BenchCase):
    def test_to_both_ends(self):
        bench = Bench()
        states = [state(bench)[:2]]
        for call, args in [(bench.put, ["a", DARE]), (bench.put, ["b", DILEMMA]), (bench.join, ["c", "a", "b"]),
                           (bench.scale, ["a", -2]), (bench.strike, ["b"]), (bench.keep, ["c", [[1], [0, 1]]]),
                           (bench.rename, ["c", "d"]), (bench.rename, ["d", "d"]), (bench.drop, ["a"])]:
            call(*args)
            states.append(state(bench)[:2])
        many = len(states) - 1
        for _ in range(2):
            for at in range(many, 0, -1):
                self.assertEqual(state(bench), states[at] + [at, many - at])
                self.assertIsNone(bench.undo())
            self.changes_nothing(bench, NothingToUndo, {}, bench.undo)
            for at in range(many):
                self.assertEqual(state(bench), states[at] + [at, many - at])
                self.assertIsNone(bench.redo())
            self.changes_nothing(bench, NothingToRedo, {}, bench.redo)

    def test_a_change_behind_an_undo(self):
        bench = filled(a=DARE, b=DARE, c=DARE)
        bench.undo()
        bench.undo()
        bench.put("d", DILEMMA)
        self.same_value([bench.names(), bench.undos, bench.redos], [["a", "d"], 2, 0])
        self.changes_nothing(bench, NothingToRedo, {}, bench.redo)
        bench.undo()
        self.same_value([bench.names(), bench.undos, bench.redos], [["a"], 1, 1])
        bench.redo()
        self.same_value(bench.names(), ["a", "d"])

    def test_errors_and_questions_are_no_changes(self):
        bench = filled(a=DARE, b=DARE)
        bench.undo()
        for name in ["a", "A"]:
            with self.assertRaises((NameTaken, BadName)):
                bench.put(name, DARE)
        bench.possible("a"), bench.same("a", "a"), bench.groups(), bench.names(), len(bench), "a" in bench
        bench.tried(["a"], lambda each: each.drop("a"))
        self.same_value([bench.undos, bench.redos], [1, 1])
        bench.redo()
        self.same_value(bench.names(), ["a", "b"])

    def test_an_empty_bench(self):
        bench = Bench()
        self.changes_nothing(bench, NothingToUndo, {}, bench.undo)
        self.changes_nothing(bench, NothingToRedo, {}, bench.redo)

    def test_undos_and_redos_are_not_assigned(self):
        for name in ["undos", "redos"]:
            with self.assertRaises(AttributeError):
                setattr(Bench(), name, 3)

    def test_many_changes_end_soon(self):
        bench = filled(a=DARE)
        with self.ends_within(60):
            for _ in range(3000):
                bench.scale("a", -1)
            for _ in range(3001):
                bench.undo()
        self.same_value([len(bench), bench.redos], [0, 3001])


class AskingTest(BenchCase):
    def test_possible_cells(self):
        for seed, shape in enumerate(SHAPES):
            game = drawn(seed, shape, 3)
            self.same_value(filled(g=game).possible(name="g"), possible_cells(game))

    def test_same(self):
        bench = filled(a=DARE, b=DARE * 3, c=DILEMMA, d=drawn(1, (2, 4), 1), e=equal_payoffs((2, 2), 0),
                       f=equal_payoffs((4,), 0), g=equal_payoffs((4, 1), 0))
        for one in bench.names():
            for other in bench.names():
                wanted = bench[one].shape == bench[other].shape and same_hints(bench[one], bench[other])
                self.assertIs(bench.same(one, other), wanted)
        self.same_value([bench.same(other="b", one="a"), bench.same("a", "c"), bench.same("f", "g")],
                        [True, False, False])
        self.changes_nothing(bench, UnknownName, {"name": "x"}, bench.same, "x", "y")

    def test_groups(self):
        bench = filled(z=DARE, y=DILEMMA, x=equal_payoffs((2, 2), 0), b=DARE * 3, a=equal_payoffs((2, 2), 9),
                       m=equal_payoffs((4,), 1), n=equal_payoffs((4,), 2), k=equal_payoffs((1, 4), 1), c=DARE)
        self.same_value(bench.groups(), [["a", "x"], ["b", "c", "z"], ["k"], ["m", "n"], ["y"]])

    def test_groups_of_games_drawn(self):
        chooser = random.Random(144)
        for _ in range(10):
            bench = Bench()
            for name in chooser.sample("abcdefghijklmnop", 10):
                bench.put(name, drawn(chooser.randint(0, 3), chooser.choice([(2,), (2, 2), (1, 2)]), 1))
            found = bench.groups()
            self.assertEqual(sorted(name for group in found for name in group), bench.names())
            self.assertEqual(found, sorted([sorted(group) for group in found]))
            home = {name: at for at, group in enumerate(found) for name in group}
            for one in bench.names():
                for other in bench.names():
                    self.assertIs(bench.same(one, other), home[one] == home[other])
            names = [name for name in bench.names() if bench[name].shape == (2, 2)]
            wanted = [[names[index] for index in group] for group in groups_same([bench[name] for name in names])]
            self.assertEqual([group for group in found if group[0] in names], wanted)


class Stop(Exception):
    pass


class TrialTest(BenchCase):
    def setUp(self):
        self.bench = filled(a=DARE, b=DILEMMA, c=DARE * 2, d=DARE)
        self.bench.undo()
        self.before = history(self.bench)

    def work(self, bench):
        """Changes of all kinds, also of what was there before."""
        bench.drop("a")
        bench.scale("b", 5)
        bench.put("e", DARE)
        bench.rename("c", "f")
        for _ in range(5):
            bench.undo()
        bench.put("g", DARE)
        bench.undo()
        bench.redo()

    def test_the_bench_is_as_it_was(self):
        with self.bench.trial() as given:
            self.assertIs(given, self.bench)
            self.work(given)
            self.assertNotEqual(history(self.bench), self.before)
        self.assertEqual(history(self.bench), self.before)
        self.bench.redo()
        self.same_value(self.bench.names(), ["a", "b", "c", "d"])

    def test_a_block_that_changes_nothing(self):
        with self.bench.trial():
            pass
        self.assertEqual(history(self.bench), self.before)

    def test_an_error_goes_on(self):
        for error in [Stop("x"), NoCell(3), KeyError(1)]:
            with self.assertRaises(type(error)) as caught:
                with self.bench.trial() as given:
                    self.work(given)
                    raise error
            self.assertIs(caught.exception, error)
            self.assertEqual(history(self.bench), self.before)

    def test_ends_by_return_and_break(self):
        def leave():
            with self.bench.trial() as given:
                self.work(given)
                return 5

        self.same_value(leave(), 5)
        for _ in range(2):
            with self.bench.trial() as given:
                self.work(given)
                break
        self.assertEqual(history(self.bench), self.before)

    def test_trials_within_trials(self):
        with self.bench.trial():
            self.bench.drop("a")
            inner = history(self.bench)
            with self.bench.trial():
                self.bench.scale("b", 5)
                for _ in range(3):
                    self.bench.undo()
                with self.assertRaises(Stop):
                    with self.bench.trial() as given:
                        given.put("z", DARE)
                        raise Stop()
                self.bench.put("y", DARE)
            self.assertEqual(history(self.bench), inner)
            self.bench.put("x", DARE)
        self.assertEqual(history(self.bench), self.before)

    def test_a_trial_begins_with_its_block_and_may_be_used_again(self):
        trial = self.bench.trial()
        self.bench.put("y", DARE)
        now = history(self.bench)
        for _ in range(2):
            with trial as given:
                self.work(given)
            self.assertEqual(history(self.bench), now)
        with trial:
            self.bench.drop("y")
            inner = history(self.bench)
            with trial:
                self.bench.drop("a")
            self.assertEqual(history(self.bench), inner)
        self.assertEqual(history(self.bench), now)

    def test_changes_behind_a_trial_go_on_from_before(self):
        with self.bench.trial():
            self.work(self.bench)
        self.bench.drop("b")
        self.same_value([self.bench.names(), self.bench.undos, self.bench.redos], [["a", "c"], 4, 0])
        self.bench.undo()
        self.same_value(self.bench.names(), ["a", "b", "c"])


class TriedTest(BenchCase):
    def setUp(self):
        self.bench = filled(a=DARE, b=DILEMMA, c=DARE * 2, d=DARE)
        self.bench.undo()
        self.before = history(self.bench)

    def test_only_the_named_games_are_there(self):
        for names, wanted, undos in [(["b"], ["b"], 5), ([], [], 6), (["c", "a"], ["a", "c"], 4), (("a",), ["a"], 5),
                                     (["a", "b", "c"], ["a", "b", "c"], 3), (["b", "b"], ["b"], 5)]:
            seen = []

            def deed(bench):
                self.assertIs(bench, self.bench)
                seen.append([bench.names(), bench.undos, bench.redos])
                return seen

            self.assertIs(self.bench.tried(names, deed), seen)
            # Each drop is a change, and behind a change nothing can be done again.
            self.same_value(seen, [[wanted, undos, 0 if undos > 3 else 1]])
            self.assertEqual(history(self.bench), self.before)

    def test_the_drops_can_be_taken_back_in_the_trial(self):
        def deed(bench):
            bench.undo()
            bench.undo()
            return bench.names()

        self.same_value(self.bench.tried(["b"], deed), ["a", "b", "c"])
        self.same_value(self.bench.tried(deed=lambda bench: bench["b"] == DILEMMA, names=["b"]), True)
        self.assertEqual(history(self.bench), self.before)

    def test_what_a_deed_returns(self):
        for value in [None, 0, [1], "x", DARE]:
            self.assertIs(self.bench.tried(["a"], lambda bench: value), value)
        self.same_value(self.bench.tried(["b"], lambda bench: bench.strike("b")), None)
        self.assertEqual(self.bench["b"], DILEMMA)

    def test_an_error_of_the_deed(self):
        def deed(bench):
            bench.drop("b")
            raise Stop("x")

        with self.assertRaises(Stop):
            self.bench.tried(["b"], deed)
        self.assertEqual(history(self.bench), self.before)
        self.changes_nothing(self.bench, UnknownName, {"name": "a"}, self.bench.tried, ["b"], lambda bench: bench["a"])

    def test_tried_within_tried(self):
        def outer(bench):
            inner = bench.tried(["a"], lambda each: [each.names(), each.undos])
            return [bench.names(), inner, bench.undos]

        self.same_value(self.bench.tried(["a", "b"], outer), [["a", "b"], [["a"], 5], 4])
        self.assertEqual(history(self.bench), self.before)

    def test_unknown_names_come_ahead_of_the_trial(self):
        def deed(bench):
            raise Stop()

        for name in UNKNOWN:
            self.changes_nothing(self.bench, UnknownName, {"name": name}, self.bench.tried, [name], deed)
            self.changes_nothing(self.bench, UnknownName, {"name": name}, self.bench.tried, ["a", name, "y"], deed)

    def test_the_names_are_not_changed(self):
        names = ["c", "a"]
        self.bench.tried(names, lambda bench: bench.drop("a"))
        self.same_value(names, ["c", "a"])


class LimitsTest(BenchCase):
    def test_ends_soon_at_the_limits(self):
        bench = Bench()
        with self.ends_within(60):
            for at, game in enumerate(LARGE_GAMES):
                bench.put("abcdefghijkl"[at], game)
                bench.possible("abcdefghijkl"[at])
            bench.groups()
            for name in bench.names():
                bench.strike(name)
        self.assertEqual(bench.undos, 2 * len(LARGE_GAMES))

    def test_games_of_all_kinds(self):
        bench = filled(one=Game([1], [[1000]]), three=drawn(1, (2, 2, 4), 1000), two=opposed([[1, -1], [-1, 1]]))
        self.same_value([len(bench["one"]), len(bench["three"]), bench.possible("one")], [1, 16, [(0,)]])


if __name__ == "__main__":
    unittest.main()
