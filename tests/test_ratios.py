import unittest
from fractions import Fraction

from checking import Case
from everyhint.errors import BadRatio, BadText
from everyhint.ratios import compare, lowest, minus, plus, ratio, ratio_text, read_ratio, times

BIG = 123456789012345678901234567890
SOME = [0, 1, -1, 2, -2, 6, -15, 97, BIG, -BIG, 10 ** 29, 1 - 10 ** 30]


def pair(fraction):
    return (fraction.numerator, fraction.denominator)


class RatioTest(Case):
    def test_examples_of_the_interface(self):
        self.same_value(
            [ratio(6, -4), plus((1, 2), (1, 3)), times((2, 3), (3, 4)), compare((1, 2), (2, 3)), lowest([4, 0, -6])],
            [(-3, 2), (5, 6), (1, 2), -1, [2, 0, -3]])
        self.same_value([ratio_text((5, 6)), ratio_text((-2, 1)), read_ratio("-3/4")], ["5/6", "-2", (-3, 4)])

    def test_ratio_is_in_lowest_terms_with_a_bottom_of_at_least_1(self):
        for top in SOME:
            for bottom in SOME:
                if bottom != 0:
                    self.same_value(ratio(top, bottom), pair(Fraction(top, bottom)))

    def test_zero_is_0_over_1(self):
        for bottom in [1, -1, 7, -7, BIG, -BIG]:
            self.same_value(ratio(0, bottom), (0, 1))
        self.same_value(ratio(0), (0, 1))

    def test_bottom_is_1_if_omitted(self):
        self.same_value([ratio(5), ratio(-5), ratio(BIG)], [(5, 1), (-5, 1), (BIG, 1)])

    def test_parameter_names(self):
        self.same_value(ratio(bottom=-4, top=6), (-3, 2))
        self.same_value(ratio(top=3), (3, 1))
        self.same_value(plus(other=(1, 3), one=(1, 2)), (5, 6))
        self.same_value(minus(other=(1, 3), one=(1, 2)), (1, 6))
        self.same_value(times(other=(1, 3), one=(1, 2)), (1, 6))
        self.same_value(compare(other=(1, 3), one=(1, 2)), 1)
        self.same_value(lowest(numbers=[2, 4]), [1, 2])
        self.same_value(ratio_text(one=(1, 2)), "1/2")
        self.same_value(read_ratio(text="1/2"), (1, 2))

    def test_bottom_0_is_refused(self):
        for top in [0, 1, -1, BIG]:
            self.fails(BadRatio, {"bottom": 0}, ratio, top, 0)
        self.fails(BadRatio, {"bottom": 0}, ratio, bottom=0, top=3)


class ArithmeticTest(Case):
    def test_all_operations_agree_with_fractions(self):
        fractions = [Fraction(top, bottom) for top in SOME for bottom in SOME if bottom > 0]
        for one in fractions:
            for other in fractions:
                args = (pair(one), pair(other))
                self.same_value(plus(*args), pair(one + other))
                self.same_value(minus(*args), pair(one - other))
                self.same_value(times(*args), pair(one * other))
                self.same_value(compare(*args), (one > other) - (one < other))

    def test_results_that_are_zero(self):
        self.same_value([plus((1, 2), (-1, 2)), minus((2, 3), (2, 3)), times((0, 1), (5, 7))], [(0, 1)] * 3)


class LowestTest(Case):
    def test_all_are_divided_by_the_greatest_common_divisor(self):
        self.same_value(lowest([6, 10, 15]), [6, 10, 15])
        self.same_value(lowest([12, 18, -30]), [2, 3, -5])
        self.same_value(lowest([BIG, -2 * BIG, 0]), [1, -2, 0])

    def test_negative_numbers_keep_their_signs(self):
        self.same_value([lowest([-4]), lowest([-4, -6]), lowest([-3, 0])], [[-1], [-2, -3], [-1, 0]])

    def test_zeros_stay_zeros(self):
        self.same_value([lowest([0]), lowest([0, 0, 0]), lowest([0, 5])], [[0], [0, 0, 0], [0, 1]])

    def test_the_empty_list(self):
        self.same_value([lowest([]), lowest(())], [[], []])

    def test_a_tuple_does_as_well_and_the_list_is_new(self):
        self.same_value(lowest((4, 6)), [2, 3])
        for numbers in [[], [0, 0], [1, 2], [2, 4]]:
            before = list(numbers)
            found = lowest(numbers)
            self.assertIsNot(found, numbers)
            found.append(9)
            self.same_value(numbers, before)


class TextTest(Case):
    def test_texts(self):
        wanted = {(0, 1): "0", (1, 1): "1", (-1, 1): "-1", (10, 7): "10/7", (-10, 7): "-10/7", (1, 100): "1/100",
                  (BIG, 1): str(BIG), (-BIG, 11): f"{-BIG}/11", (7, 10 ** 29): f"7/{10 ** 29}"}
        for one, text in wanted.items():
            self.same_value(ratio_text(one), text)
            self.same_value(read_ratio(text), one)

    def test_all_small_ratios_are_read_back(self):
        for top in range(-40, 41):
            for bottom in range(1, 41):
                one = ratio(top, bottom)
                self.same_value(ratio_text(one), str(Fraction(top, bottom)))
                self.same_value(read_ratio(ratio_text(one)), one)

    def test_numbers_longer_than_python_prints(self):
        one = (10 ** 5000 + 7, 10 ** 4999)
        self.same_value(ratio_text(one), "1" + "0" * 4999 + "7/1" + "0" * 4999)
        for digits in [59, 60, 61, 119, 120, 121, 180]:
            for number in [10 ** digits - 1, 10 ** digits, 10 ** digits + 1]:
                self.same_value(ratio_text((-number, 1)), str(-number))

    def test_every_other_string_is_refused(self):
        wrong = ["", " ", "-", "/", "-/", "1/", "/2", "-/2", "2/4", "6/3", "0/2", "0/1", "1/1", "-3/1", "+1", "+1/2",
                 "1/+2", "1/-2", "-1/-2", "--1", "-0", "00", "01", "-01", "1/02", "01/2", "1/0", "0/0", "-1/0", " 1",
                 "1 ", "1 /2", "1/ 2", " 1/2", "1/2 ", "1//2", "1/2/3", "1.5", "1e3", "0x1", "1_0", "1,000", "a",
                 "one", "1a", "a/2", "1/a", "- 1", "-1 /2", "(1, 2)", "1:2", "1-2", "1/2-", "-"]
        for text in wrong:
            self.fails(BadText, {}, read_ratio, text)

    def test_line_feeds_are_refused(self):
        for text in ["\n", "1\n", "\n1", "1/2\n", "1\n/2", "1/\n2", "-\n1", "1\n2"]:
            self.fails(BadText, {}, read_ratio, text)

    def test_digits_of_other_scripts_are_refused(self):
        for text in ["\u0661", "\u00b2", "1/\u0662", "\u0661/2", "\uff11", "1/\u00b3"]:
            self.fails(BadText, {}, read_ratio, text)

    def test_texts_of_60_characters_are_read_and_of_61_refused(self):
        read = [(10 ** 59, 1), (1 - 10 ** 59, 1), (10 ** 28 + 1, 10 ** 29), (-(10 ** 28) - 1, 10 ** 28), (1, 10 ** 57)]
        for one in read:
            self.assertEqual(len(ratio_text(one)), 60)
            self.same_value(read_ratio(ratio_text(one)), one)
        refused = [(10 ** 60, 1), (-(10 ** 59), 1), (10 ** 28 + 1, 10 ** 30), (-(10 ** 28) - 1, 10 ** 29), (1, 10 ** 58)]
        for one in refused:
            self.assertEqual(len(ratio_text(one)), 61)
            self.fails(BadText, {}, read_ratio, ratio_text(one))
        self.fails(BadText, {}, read_ratio, "7" * 12000)

    def test_values_that_are_no_strings_are_refused(self):
        for value in [None, 1, (1, 2), ["1"], b"1"]:
            self.fails(BadText, {}, read_ratio, value)


if __name__ == "__main__":
    unittest.main()
