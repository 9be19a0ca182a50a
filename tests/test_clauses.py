"""Points 3 (rows), 4 and 5: tests, when a clause holds, its places, and the turned clause."""

import unittest

from querylang.clauses import holds, places_of, turned

LARGE = 10 ** 60

# For each word: does it hold where the first cell stands before the second, is alike it,
# stands behind it?
WORDS = {
    "same": (False, True, False),
    "unlike": (True, False, True),
    "before": (True, False, False),
    "upto": (True, True, False),
    "behind": (False, False, True),
    "from": (False, True, True),
}

# The first cell of each pair stands before the second.
RISING_PAIRS = (
    (1, 2), (9, 10), (-10, -9), (-1, 0), (0, 1), (LARGE, LARGE + 1), (-LARGE - 1, -LARGE),
    ("", " "), ("a", "ab"), ("10", "9"), ("Z", "a"), ("x" * 100, "x" * 99 + "y"),
    (1, "1"), (LARGE, ""), (0, ""), (-1, "-1"), ("col", "is"), ("before", "same"),
)

# Cells in which a clause's own words come again.
TELLING_CELLS = ("col", "is", *WORDS)


def rows_of(one, other):
    """Rows that hold the two cells at the places 1 and 3, and others around them."""
    return [(other, one, one, other), (7, one, "other", other, "more"), ("", one, LARGE, other)]


class EachWord(unittest.TestCase):
    def check(self, one, other, stand):
        for word, truths in WORDS.items():
            with self.subTest(word=word, one=one, other=other):
                for row in rows_of(one, other):
                    self.assertIs(holds(((word, 1, "col", 3),), row), truths[stand])
                    self.assertIs(holds(((word, 1, "is", other),), row), truths[stand])

    def test_the_first_stands_before_the_second(self):
        for low, high in RISING_PAIRS:
            self.check(low, high, 0)

    def test_both_are_alike(self):
        for pair in RISING_PAIRS:
            for cell in pair:
                self.check(cell, cell, 1)

    def test_the_first_stands_behind_the_second(self):
        for low, high in RISING_PAIRS:
            self.check(high, low, 2)

    def test_both_places_of_a_test_may_be_the_same(self):
        for word, truths in WORDS.items():
            for cell in (0, -3, LARGE, "", "col", "x" * 100):
                with self.subTest(word=word, cell=cell):
                    self.assertIs(holds(((word, 1, "col", 1),), (9, cell, "z")), truths[1])
                    self.assertIs(holds(((word, 0, "col", 0),), (cell,)), truths[1])

    def test_the_second_place_may_stand_below_the_first(self):
        row = (5, "x", 4)
        for word, truths in WORDS.items():
            with self.subTest(word=word):
                self.assertIs(holds(((word, 2, "col", 0),), row), truths[0])
                self.assertIs(holds(((word, 0, "col", 2),), row), truths[2])


class CellsThatAreTold(unittest.TestCase):
    def test_a_told_number_is_no_place(self):
        self.assertIs(holds((("same", 0, "is", 1),), (1, 5)), True)
        self.assertIs(holds((("same", 0, "is", 1),), (5, 5)), False)
        self.assertIs(holds((("before", 0, "is", 1),), (3, 5)), False)

    def test_a_place_is_no_told_number(self):
        self.assertIs(holds((("same", 0, "col", 1),), (5, 5)), True)
        self.assertIs(holds((("same", 0, "col", 1),), (1, 5)), False)

    def test_a_told_number_may_be_no_column_at_all(self):
        for cell in (-1, 2, 99, LARGE, -LARGE):
            with self.subTest(cell=cell):
                self.assertIs(holds((("same", 1, "is", cell),), (0, cell)), True)
                self.assertIs(holds((("same", 0, "is", cell),), (0, cell)), False)

    def test_a_told_text_may_be_a_word_of_the_clauses(self):
        for cell in TELLING_CELLS:
            with self.subTest(cell=cell):
                self.assertIs(holds((("same", 0, "is", cell),), (cell, 0)), True)
                self.assertIs(holds((("same", 0, "is", cell),), ("x", cell)), False)
                self.assertIs(holds((("unlike", 1, "is", cell),), (cell, 0)), True)
                self.assertIs(holds((("unlike", 1, "is", cell),), ("x", cell)), False)

    def test_a_cell_of_the_row_may_be_a_word_of_the_clauses(self):
        for cell in TELLING_CELLS:
            with self.subTest(cell=cell):
                self.assertIs(holds((("same", 0, "col", 1),), (cell, cell)), True)
                self.assertIs(holds((("same", 0, "col", 1),), (cell, "x")), False)


class RowsOfClauses(unittest.TestCase):
    def test_columns_are_told_by_their_places_from_nought(self):
        row = ("a", "b", "c", "d")
        for place, cell in ((0, "a"), (1, "b"), (2, "c"), (3, "d")):
            for other in row:
                with self.subTest(place=place, other=other):
                    self.assertIs(holds((("same", place, "is", other),), row), cell == other)

    def test_a_row_may_be_wide(self):
        row = tuple(range(200))
        self.assertIs(holds((("same", 199, "is", 199),), row), True)
        self.assertIs(holds((("before", 198, "col", 199),), row), True)
        self.assertIs(holds((("before", 199, "col", 0),), row), False)


class ManyTests(unittest.TestCase):
    def test_a_clause_without_tests_never_holds(self):
        for row in ((), (1,), ("a", "b"), (0, "", LARGE)):
            with self.subTest(row=row):
                self.assertIs(holds((), row), False)

    def test_one_test_that_holds_is_enough_wherever_it_stands(self):
        row = (1, 2)
        wrong = ("same", 0, "col", 1)
        right = ("before", 0, "col", 1)
        for many in range(1, 6):
            self.assertIs(holds((wrong,) * many, row), False)
            self.assertIs(holds((right,) * many, row), True)
            for at in range(many):
                tests = [wrong] * many
                tests[at] = right
                with self.subTest(many=many, at=at):
                    self.assertIs(holds(tuple(tests), row), True)

    def test_tests_of_both_forms_stand_in_one_clause(self):
        clause = (("same", 0, "is", "a"), ("behind", 1, "col", 2), ("upto", 2, "is", -4))
        self.assertIs(holds(clause, ("a", 0, 0)), True)
        self.assertIs(holds(clause, ("b", 1, 0)), True)
        self.assertIs(holds(clause, ("b", -4, -4)), True)
        self.assertIs(holds(clause, ("b", 0, 0)), False)
        self.assertIs(holds(clause, ("b", "", "")), False)


class PlacesOfClauses(unittest.TestCase):
    def check(self, clause, places):
        with self.subTest(clause=clause):
            found = places_of(clause)
            self.assertIs(type(found), list)
            self.assertEqual(found, places)
            self.assertEqual([type(place) for place in found], [int] * len(places))

    def test_a_clause_without_tests_has_no_places(self):
        self.check((), [])

    def test_an_is_test_tells_one_place(self):
        for word in WORDS:
            self.check(((word, 3, "is", "a"),), [3])
            self.check(((word, 0, "is", 5),), [0])

    def test_a_col_test_tells_both_of_its_places(self):
        for word in WORDS:
            self.check(((word, 3, "col", 5),), [3, 5])
            self.check(((word, 5, "col", 3),), [3, 5])
            self.check(((word, 4, "col", 4),), [4])

    def test_places_rise_and_stand_once_however_the_tests_tell_them(self):
        self.check((("same", 9, "col", 0), ("before", 4, "is", 2), ("from", 0, "col", 10)), [0, 4, 9, 10])
        self.check((("same", 7, "is", 1), ("same", 7, "is", 2), ("unlike", 7, "col", 7)), [7])
        self.check((("same", 100, "is", 1), ("upto", 20, "is", 1), ("same", 3, "is", 1),
                    ("behind", 20, "col", 3)), [3, 20, 100])
        self.check(tuple(("same", place, "col", 50 - place) for place in range(50, -1, -1)), list(range(51)))

    def test_a_told_cell_is_no_place(self):
        self.check((("same", 2, "is", 0), ("same", 1, "is", 8), ("same", 1, "is", -1)), [1, 2])
        for cell in TELLING_CELLS:
            self.check((("same", 6, "is", cell),), [6])

    def test_each_call_gives_a_list_of_its_own(self):
        clause = (("same", 1, "col", 0),)
        places_of(clause).append(99)
        self.assertEqual(places_of(clause), [0, 1])


class TurnedClauses(unittest.TestCase):
    def check(self, clause, places, expected):
        with self.subTest(clause=clause, places=places):
            got = turned(clause, places)
            self.assertEqual(got, expected)
            self.assertIs(type(got), tuple)
            for test in got:
                self.assertIs(type(test), tuple)
            self.assertEqual([list(map(type, test)) for test in got],
                             [list(map(type, test)) for test in expected])

    def test_a_clause_without_tests_stays_without(self):
        self.check((), (), ())
        self.check((), (4, 5), ())

    def test_both_places_of_a_col_test_are_turned(self):
        for word in WORDS:
            self.check(((word, 0, "col", 1),), (5, 8), ((word, 5, "col", 8),))
            self.check(((word, 1, "col", 0),), (5, 8), ((word, 8, "col", 5),))
            self.check(((word, 1, "col", 1),), (5, 8), ((word, 8, "col", 8),))

    def test_the_place_alone_of_an_is_test_is_turned(self):
        for word in WORDS:
            self.check(((word, 0, "is", "a"),), (3, 4), ((word, 3, "is", "a"),))
            for cell in (0, 1, -1, 2, LARGE):
                self.check(((word, 1, "is", cell),), (3, 4), ((word, 4, "is", cell),))

    def test_a_told_text_that_is_a_word_of_the_clauses_stays(self):
        for cell in TELLING_CELLS:
            self.check((("same", 0, "is", cell),), (1, 0), (("same", 1, "is", cell),))

    def test_places_may_stay_fall_come_again_and_lie_far_off(self):
        clause = (("before", 0, "col", 2), ("same", 1, "is", 2))
        self.check(clause, (0, 1, 2), clause)
        self.check(clause, (2, 1, 0), (("before", 2, "col", 0), ("same", 1, "is", 2)))
        self.check(clause, (6, 6, 6), (("before", 6, "col", 6), ("same", 6, "is", 2)))
        self.check(clause, (1000, 0, LARGE), (("before", 1000, "col", LARGE), ("same", 0, "is", 2)))

    def test_places_that_no_test_tells_are_passed_over(self):
        self.check((("from", 3, "col", 1),), (9, 8, 7, 6, 5), (("from", 6, "col", 8),))

    def test_tests_keep_their_order_and_their_number(self):
        clause = (("upto", 1, "is", 0), ("behind", 0, "col", 1), ("upto", 1, "is", 0))
        self.check(clause, (1, 0), (("upto", 0, "is", 0), ("behind", 1, "col", 0), ("upto", 0, "is", 0)))
        # Tests that become alike still stand once each.
        self.check((("same", 0, "is", 3), ("same", 1, "is", 3)), (4, 4),
                   (("same", 4, "is", 3), ("same", 4, "is", 3)))

    def test_a_turned_clause_holds_where_the_cells_have_been_moved_alike(self):
        clause = (("before", 0, "col", 1), ("same", 2, "is", "x"))
        places = (3, 0, 1)
        for row in ((1, 2, "y"), (2, 1, "y"), (2, 1, "x"), ("a", 1, ""), (1, "a", 0)):
            moved = (row[1], row[2], "unread", row[0])
            with self.subTest(row=row):
                self.assertIs(holds(turned(clause, places), moved), holds(clause, row))


class NothingIsChanged(unittest.TestCase):
    def test_clause_row_and_places_are_as_they_were(self):
        clause = (("same", 1, "col", 0), ("unlike", 2, "is", 1), ("from", 0, "is", "col"))
        row = (5, "a", LARGE)
        places = (2, 0, 1)
        holds(clause, row)
        places_of(clause)
        turned(clause, places)
        self.assertEqual(clause, (("same", 1, "col", 0), ("unlike", 2, "is", 1), ("from", 0, "is", "col")))
        self.assertEqual(row, (5, "a", LARGE))
        self.assertEqual(places, (2, 0, 1))


if __name__ == "__main__":
    unittest.main()
