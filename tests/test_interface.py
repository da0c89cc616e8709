import ast
import inspect
import pathlib
import unittest

import everyhint.bench
import everyhint.compared
import everyhint.errors
import everyhint.fewer
import everyhint.games
import everyhint.goals
import everyhint.heeding
import everyhint.hints
import everyhint.logs
import everyhint.notation
import everyhint.opposed
import everyhint.polygon
import everyhint.possible
import everyhint.programs
import everyhint.ratios
import everyhint.struck

FOLDER = pathlib.Path(everyhint.errors.__file__).parent

FUNCTIONS = {
    "ratios": {
        "ratio": "(top, bottom=1)", "plus": "(one, other)", "minus": "(one, other)", "times": "(one, other)",
        "compare": "(one, other)", "lowest": "(numbers)", "ratio_text": "(one)", "read_ratio": "(text)",
    },
    "games": {
        "Game": "(shape, payoffs)", "cells": "(shape)", "two": "(rows)", "opposed": "(rows)",
        "kept": "(game, moves)", "bets": "(game)", "balance_row": "(game, bet)",
    },
    "hints": {
        "Hint": "(shape, weights)", "support": "(hint)", "told": "(hint, player)", "known": "(hint, player, move)",
        "sure": "(shape, cell)", "product": "(mixes)", "blended": "(hints, shares)", "mean": "(hint, numbers)",
        "means": "(game, hint)", "followed": "(hint, player, plan)",
    },
    "heeding": {
        "gain": "(game, hint, player, told, other)", "gains": "(game, hint)", "heeds": "(game, hint, player)",
        "is_heeded": "(game, hint)", "tempting": "(game, hint)", "plan_gain": "(game, hint, player, plan)",
        "best_plan": "(game, hint, player)", "temptation": "(game, hint, player)",
    },
    "programs": {"greatest": "(rows, goal)", "is_answer": "(rows, goal, answer)"},
    "possible": {
        "hint_for": "(game, cell)", "book_against": "(game, cell)", "possible_cells": "(game)", "wide_hint": "(game)",
        "wide_book": "(game)", "balance": "(game, book, cell)", "is_closed": "(game, book)",
        "barred_by": "(game, book)", "strict_hint": "(game, bet)", "book_with": "(game, bet)",
        "possible_moves": "(game)",
    },
    "goals": {
        "greatest_mean": "(game, goal)", "best_hint": "(game, goal)", "book_for": "(game, goal)",
        "shows_greatest": "(game, goal, value, hint, scale, book)", "payoff_goal": "(game, shares)",
        "payoff_range": "(game, player)", "chance_range": "(game, cell)",
    },
    "struck": {
        "others": "(shape, player)", "belief_for": "(game, player, move)", "mixture_above": "(game, player, move)",
        "is_belief": "(game, player, move, belief)", "is_above": "(game, player, move, mix)", "strikes": "(game)",
        "left": "(game)", "left_after": "(game, steps)", "are_strikes": "(game, steps)",
        "widened": "(hint, moves, shape)",
    },
    "compared": {
        "implies": "(one, other)", "hint_between": "(one, other)", "multipliers": "(one, other)",
        "shows_implied": "(one, other, paper)", "same_hints": "(one, other)", "groups_same": "(games)",
    },
    "opposed": {
        "worth": "(game)", "safe_mixes": "(game)", "is_safe": "(game, player, mix)", "moves_in_use": "(game, player)",
    },
    "polygon": {
        "payoff_corners": "(game)", "corner_hints": "(game)", "hint_at": "(game, point)", "fence": "(game, point)",
        "is_fence": "(game, point, told)",
    },
    "fewer": {
        "groups": "(game, book)", "reduced": "(game, book)", "lifted": "(game, book, hint)", "full_book": "(game)",
        "is_elementary": "(game)", "ladder": "(game)", "climbed": "(game, hint)",
    },
    "logs": {
        "Log": "(shape)", "regret": "(log, game, player, told, other)", "fixed_regret": "(log, game, player, move)",
        "no_regrets": "(log, game)", "takes": "(game, hint, player)", "is_taken": "(game, hint)",
        "greatest_taken": "(game, goal)", "best_taken": "(game, goal)", "offers": "(game, goal)",
        "shows_offers": "(game, goal, value, told)",
    },
    "bench": {"Bench": "()"},
    "notation": {
        "text_of": "(thing)", "book_text": "(book)", "read_game": "(text)", "read_hint": "(text)",
        "read_book": "(text)", "read_bench": "(text)", "report": "(game)",
    },
}
# The operators of a class, and the parameters of its methods.
METHODS = {
    "Game": {"__len__": "(self)", "__getitem__": "(self, at)", "__iter__": "(self)", "__contains__": "(self, x)",
             "__eq__": "(self, other)", "payoffs": "(self)", "__add__": "(self, other)", "__neg__": "(self)",
             "__mul__": "(self, other)"},
    "Hint": {"weights": "(self)", "__getitem__": "(self, at)", "__eq__": "(self, other)"},
    "Log": {"__len__": "(self)", "plays": "(self)", "play": "(self, cell)", "hint": "(self)",
            "behind": "(self, count)"},
    "Bench": {"put": "(self, name, game)", "join": "(self, new, one, other)", "scale": "(self, name, factor)",
              "keep": "(self, name, moves)", "strike": "(self, name)", "rename": "(self, name, new)",
              "drop": "(self, name)", "undo": "(self)", "redo": "(self)", "__getitem__": "(self, at)",
              "__contains__": "(self, x)", "__len__": "(self)", "names": "(self)", "possible": "(self, name)",
              "same": "(self, one, other)", "groups": "(self)", "trial": "(self)", "tried": "(self, names, deed)"},
}


def defined(file):
    """The functions and classes that a file of the package defines, by their names."""
    tree = ast.parse((FOLDER / f"{file}.py").read_text())
    return {node.name: node for node in tree.body if isinstance(node, (ast.FunctionDef, ast.ClassDef))}


class InterfaceTest(unittest.TestCase):
    def test_names_are_defined_in_their_file_with_the_parameters_of_the_interface(self):
        for file, listed in FUNCTIONS.items():
            module = getattr(everyhint, file)
            for name, parameters in listed.items():
                self.assertIn(name, defined(file))
                self.assertEqual(str(inspect.signature(getattr(module, name))), parameters, name)

    def test_methods_are_defined_in_the_class_itself_with_the_parameters_of_the_interface(self):
        for file, listed in FUNCTIONS.items():
            for name in METHODS:
                if name in listed:
                    body = [node.name for node in defined(file)[name].body if isinstance(node, ast.FunctionDef)]
                    self.assertEqual(sorted(set(METHODS[name]) - set(body)), [])
                    for method, parameters in METHODS[name].items():
                        found = getattr(getattr(getattr(everyhint, file), name), method)
                        self.assertEqual(str(inspect.signature(found)), parameters, method)

    def test_undos_and_redos_are_properties_of_the_class_itself(self):
        body = [node.name for node in defined("bench")["Bench"].body if isinstance(node, ast.FunctionDef)]
        for name in ["undos", "redos"]:
            self.assertIn(name, body)
            self.assertIsInstance(vars(everyhint.bench.Bench)[name], property)

    def test_error_classes_are_defined_in_errors(self):
        classes = [name for name, node in defined("errors").items() if isinstance(node, ast.ClassDef)]
        self.assertEqual(len(classes), 25)
        self.assertEqual(classes[0], "HintError")


if __name__ == "__main__":
    unittest.main()
