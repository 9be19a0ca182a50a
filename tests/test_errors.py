"""Point 8, as far as the error classes go."""

import unittest

from querylang import errors

REFUSALS = (errors.NoStep, errors.NoTable, errors.NoCount, errors.NoColumn, errors.UnlikeSides)


class ErrorClasses(unittest.TestCase):
    def test_query_error_stands_right_under_value_error(self):
        self.assertEqual(errors.QueryError.__bases__, (ValueError,))

    def test_each_refusal_stands_right_under_query_error(self):
        for refusal in REFUSALS:
            with self.subTest(refusal=refusal.__name__):
                self.assertEqual(refusal.__bases__, (errors.QueryError,))

    def test_the_five_are_five_and_none_stands_under_another(self):
        self.assertEqual(len(set(REFUSALS)), 5)
        for one in REFUSALS:
            for other in REFUSALS:
                with self.subTest(one=one.__name__, other=other.__name__):
                    self.assertIs(issubclass(one, other), one is other)

    def test_each_is_named_as_the_interface_names_it(self):
        names = [error.__name__ for error in (errors.QueryError, *REFUSALS)]
        self.assertEqual(
            names, ["QueryError", "NoStep", "NoTable", "NoCount", "NoColumn", "UnlikeSides"])

    def test_each_is_caught_as_itself_as_query_error_and_as_value_error(self):
        for refusal in REFUSALS:
            for caught in (refusal, errors.QueryError, ValueError):
                with self.subTest(refusal=refusal.__name__, caught=caught.__name__):
                    with self.assertRaises(caught):
                        raise refusal("why")

    def test_none_of_the_five_is_caught_as_another(self):
        for refusal in REFUSALS:
            others = tuple(other for other in REFUSALS if other is not refusal)
            with self.subTest(refusal=refusal.__name__):
                with self.assertRaises(refusal):
                    try:
                        raise refusal("why")
                    except others:
                        pass

    def test_query_error_is_raised_by_itself_too_and_carries_its_words(self):
        for error in (errors.QueryError, *REFUSALS):
            with self.subTest(error=error.__name__):
                self.assertEqual(str(error("why")), "why")


if __name__ == "__main__":
    unittest.main()
