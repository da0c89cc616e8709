import ast
import inspect
import pathlib
import unittest

import everyhint.errors
import everyhint.games
import everyhint.goals
import everyhint.heeding
import everyhint.hints
import everyhint.possible
import everyhint.programs
import everyhint.ratios

FOLDER = pathlib.Path(everyhint.errors.__file__).parent

FUNCTIONS = {
    "ratios": {
        "ratio": "(top, bottom=1)", "plus": "(one, other)", "minus": "(one, other)", "times": "(one, other)",
        "compare": "(one, other)", "lowest": "(numbers)", "ratio_text": "(one)", "read_ratio": "(text)",
    },
    "games": {
        "Game": "(shape, payoffs)", "cells": "(shape)", "two": "(rows)", "opposed": "(rows)",
        "kept": "(game, moves)", "bets": "(game)", "balance_row": "(game, bet)",
    },
    "hints": {
        "Hint": "(shape, weights)", "support": "(hint)", "told": "(hint, player)", "known": "(hint, player, move)",
        "sure": "(shape, cell)", "product": "(mixes)", "blended": "(hints, shares)", "mean": "(hint, numbers)",
        "means": "(game, hint)", "followed": "(hint, player, plan)",
    },
    "heeding": {
        "gain": "(game, hint, player, told, other)", "gains": "(game, hint)", "heeds": "(game, hint, player)",
        "is_heeded": "(game, hint)", "tempting": "(game, hint)", "plan_gain": "(game, hint, player, plan)",
        "best_plan": "(game, hint, player)", "temptation": "(game, hint, player)",
    },
    "programs": {"greatest": "(rows, goal)", "is_answer": "(rows, goal, answer)"},
    "possible": {
        "hint_for": "(game, cell)", "book_against": "(game, cell)", "possible_cells": "(game)", "wide_hint": "(game)",
        "wide_book": "(game)", "balance": "(game, book, cell)", "is_closed": "(game, book)",
        "barred_by": "(game, book)", "strict_hint": "(game, bet)", "book_with": "(game, bet)",
        "possible_moves": "(game)",
    },
    "goals": {
        "greatest_mean": "(game, goal)", "best_hint": "(game, goal)", "book_for": "(game, goal)",
        "shows_greatest": "(game, goal, value, hint, scale, book)", "payoff_goal": "(game, shares)",
        "payoff_range": "(game, player)", "chance_range": "(game, cell)",
    },
}
METHODS = {
    "Game": ["__len__", "__getitem__", "__iter__", "__contains__", "__eq__", "payoffs", "__add__", "__neg__",
             "__mul__"],
    "Hint": ["weights", "__getitem__", "__eq__"],
}


def defined(file):
    """The functions and classes that a file of the package defines, by their names."""
    tree = ast.parse((FOLDER / f"{file}.py").read_text())
    return {node.name: node for node in tree.body if isinstance(node, (ast.FunctionDef, ast.ClassDef))}


class InterfaceTest(unittest.TestCase):
    def test_names_are_defined_in_their_file_with_the_parameters_of_the_interface(self):
        for file, listed in FUNCTIONS.items():
            module = getattr(everyhint, file)
            for name, parameters in listed.items():
                self.assertIn(name, defined(file))
                self.assertEqual(str(inspect.signature(getattr(module, name))), parameters, name)

    def test_methods_are_defined_in_the_class_itself(self):
        for file, listed in FUNCTIONS.items():
            for name in METHODS:
                if name in listed:
                    body = [node.name for node in defined(file)[name].body if isinstance(node, ast.FunctionDef)]
                    self.assertEqual(sorted(set(METHODS[name]) - set(body)), [])

    def test_error_classes_are_defined_in_errors(self):
        classes = [name for name, node in defined("errors").items() if isinstance(node, ast.ClassDef)]
        self.assertEqual(len(classes), 25)
        self.assertEqual(classes[0], "HintError")


if __name__ == "__main__":
    unittest.main()
