import unittest

from checking import Case
from everyhint import errors

LISTED = {
    "BadRatio": ["bottom"], "BadText": [], "BadShape": [], "BadPayoffs": ["index"], "BadWeights": [],
    "BadMoves": ["player"], "BadRule": ["player"], "BadRows": [], "BadBook": [], "BadPoint": [],
    "BadShares": [], "NotOpposed": ["cell"], "NotTwo": ["players"], "NotClosed": ["cell"],
    "Mismatch": [], "NoPlayer": ["player"], "NoMove": ["move"], "NoCell": ["cell"],
    "BadName": ["name"], "NameTaken": ["name"], "UnknownName": ["name"], "NothingToUndo": [],
    "NothingToRedo": [], "BadLine": ["line"],
}


class ErrorsTest(Case):
    def test_hint_error_is_a_direct_subclass_of_value_error(self):
        self.assertEqual(errors.HintError.__bases__, (ValueError,))

    def test_all_listed_classes_are_direct_subclasses_of_hint_error(self):
        for name in LISTED:
            self.assertEqual(getattr(errors, name).__bases__, (errors.HintError,), name)
            self.assertEqual(getattr(errors, name).__module__, "everyhint.errors")

    def test_no_class_is_missing_from_the_list_of_this_test(self):
        found = [each.__name__ for each in errors.HintError.__subclasses__()]
        self.assertEqual(sorted(found), sorted(LISTED))

    def test_errors_keep_any_values_as_attributes(self):
        for name, attributes in LISTED.items():
            for value in [0, -3, 10 ** 5000, True, None, "ab", (1, 2), [1, [2]], {"a": 1}, object()]:
                error = getattr(errors, name)(*[value for _ in attributes])
                self.assertEqual(list(vars(error)), attributes, name)
                for attribute in attributes:
                    self.assertTrue(getattr(error, attribute) is value or getattr(error, attribute) == value)

    def test_attributes_may_be_passed_by_name(self):
        for name, attributes in LISTED.items():
            error = getattr(errors, name)(**{attribute: 7 for attribute in attributes})
            self.assertEqual(vars(error), {attribute: 7 for attribute in attributes})

    def test_errors_can_be_raised_and_caught_by_each_of_their_bases(self):
        for name, attributes in LISTED.items():
            for base in [getattr(errors, name), errors.HintError, ValueError]:
                with self.assertRaises(base):
                    raise getattr(errors, name)(*[1 for _ in attributes])

    def test_errors_with_an_attribute_need_it(self):
        for name, attributes in LISTED.items():
            if attributes:
                with self.assertRaises(TypeError):
                    getattr(errors, name)()


if __name__ == "__main__":
    unittest.main()
