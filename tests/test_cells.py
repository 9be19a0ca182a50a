"""Point 2: when cells are alike, and which of two stands before the other."""

import unittest

from querylang.cells import alike, before

SIXTY = 10 ** 60 - 1

# Each cell stands before all that follow it here.
RISING_NUMBERS = (
    -(10 ** 70), -SIXTY, -SIXTY + 1, -100, -10, -9, -2, -1, 0, 1, 2, 9, 10, 11, 100,
    2 ** 53, 2 ** 53 + 1, 2 ** 64, SIXTY - 1, SIXTY, SIXTY + 1, 10 ** 70, 10 ** 70 + 1, 10 ** 400,
)
RISING_TEXTS = (
    "", " ", "  ", " ~", "!", "-1", "0", "00", "1", "10", "2", "9", "A", "Z", "Za", "a", "a" * 99,
    "a" * 99 + " ", "a" * 100, "a" * 99 + "b", "a" * 99 + "~", "ab", "b", "col", "same", "z", "~",
    "~" * 99, "~" * 100,
)
RISING = RISING_NUMBERS + RISING_TEXTS


class TwoCells(unittest.TestCase):
    def test_a_cell_is_alike_itself_and_no_other(self):
        for at, one in enumerate(RISING):
            for beside, other in enumerate(RISING):
                with self.subTest(one=one, other=other):
                    self.assertIs(alike(one, other), at == beside)

    def test_a_cell_stands_before_those_behind_it_and_no_other(self):
        for at, one in enumerate(RISING):
            for beside, other in enumerate(RISING):
                with self.subTest(one=one, other=other):
                    self.assertIs(before(one, other), at < beside)

    def test_cells_made_apart_are_told_by_what_they_hold(self):
        for one, other in ((int("9" * 60), SIXTY), ("".join(["a", "b"]), "ab"),
                           ("".join(["~"] * 100), "~" * 100), (int("-7"), -7), (int("-0"), 0)):
            with self.subTest(one=one):
                self.assertIs(alike(one, other), True)
                self.assertIs(before(one, other), False)
                self.assertIs(before(other, one), False)


class NumbersBesideTexts(unittest.TestCase):
    def test_a_number_is_never_alike_the_text_of_its_figures(self):
        for number in (-1, 0, 1, 10, SIXTY, -SIXTY):
            with self.subTest(number=number):
                self.assertIs(alike(number, str(number)), False)
                self.assertIs(alike(str(number), number), False)

    def test_each_number_stands_before_each_text(self):
        for number in RISING_NUMBERS:
            for text in RISING_TEXTS:
                with self.subTest(number=number, text=text):
                    self.assertIs(before(number, text), True)
                    self.assertIs(before(text, number), False)

    def test_nought_and_the_empty_text_are_not_alike(self):
        self.assertIs(alike(0, ""), False)
        self.assertIs(alike("", 0), False)
        self.assertIs(before(0, ""), True)
        self.assertIs(before("", 0), False)


class NumbersAndTextsAmongThemselves(unittest.TestCase):
    def test_numbers_stand_by_their_sizes_not_by_their_figures(self):
        self.assertIs(before(9, 10), True)
        self.assertIs(before(10, 9), False)
        self.assertIs(before(-10, -9), True)
        self.assertIs(before(-9, -10), False)

    def test_texts_stand_by_their_signs_not_by_their_sizes(self):
        self.assertIs(before("10", "9"), True)
        self.assertIs(before("9", "10"), False)
        self.assertIs(before("Z", "a"), True)
        self.assertIs(before("a", "Z"), False)
        self.assertIs(alike("a", "A"), False)
        self.assertIs(alike("a", "a "), False)

    def test_large_numbers_are_told_apart_to_the_last_figure(self):
        for large in (SIXTY, -SIXTY, 10 ** 60, 10 ** 75):
            with self.subTest(large=large):
                self.assertIs(alike(large, large + 1), False)
                self.assertIs(before(large, large + 1), True)
                self.assertIs(before(large + 1, large), False)

    def test_a_text_stands_before_the_longer_one_that_begins_with_it(self):
        for many in range(100):
            with self.subTest(many=many):
                self.assertIs(before("x" * many, "x" * (many + 1)), True)
                self.assertIs(before("x" * (many + 1), "x" * many), False)
                self.assertIs(alike("x" * many, "x" * (many + 1)), False)

    def test_texts_that_differ_in_one_sign_are_told_apart_wherever_it_stands(self):
        low = "m" * 100
        for at in range(100):
            high = low[:at] + "n" + low[at + 1:]
            with self.subTest(at=at):
                self.assertIs(alike(low, high), False)
                self.assertIs(before(low, high), True)
                self.assertIs(before(high, low), False)


if __name__ == "__main__":
    unittest.main()
