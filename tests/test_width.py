"""Points 7 and 8: how many columns a query's rows have, and which queries are refused with which error."""

import unittest

from querylang.errors import NoColumn, NoCount, NoStep, NoTable, UnlikeSides
from querylang.plans import plan, planned
from querylang.shapes import width
from tests.making import WIDTHS, many_queries, sets_of_tables
from tests.reference import rows_of

TABLE_WIDTHS = {"two": 2, "three": 3, "one": 1, "nought": 0, "wide": 10 ** 20}
TABLES = {"two": [(1, 2)], "three": [("a", "b", "c")], "one": [(5,)], "nought": [()], "wide": []}

TWO = ("table", "two")
THREE = ("table", "three")
ONE = ("table", "one")
NOUGHT = ("table", "nought")
WIDE = ("table", "wide")

NO_STEP = ("filter", (), TWO)
NO_TABLE = ("table", "missing")
NO_COUNT = ("first", -1, TWO)
NO_COLUMN = ("pick", (2,), TWO)
UNLIKE_SIDES = ("both", TWO, THREE)

# A wrong query for each of the errors.
WRONG = {
    NoStep: NO_STEP, NoTable: NO_TABLE, NoCount: NO_COUNT, NoColumn: NO_COLUMN, UnlikeSides: UNLIKE_SIDES,
}

# Places that are no column of rows of two columns.
NO_PLACES = (-1, 2, 3, -2, 10 ** 40, -10 ** 40)


class Widths(unittest.TestCase):
    def check(self, query, expected):
        with self.subTest(query=query):
            found = width(query, TABLE_WIDTHS)
            self.assertIs(type(found), int)
            self.assertEqual(found, expected)

    def test_a_table_by_widths(self):
        for query, many in ((TWO, 2), (THREE, 3), (ONE, 1), (NOUGHT, 0), (WIDE, 10 ** 20)):
            self.check(query, many)

    def test_a_pick_as_many_as_its_places(self):
        for places in ((), (0,), (1,), (1, 0), (0, 0, 0, 1, 1)):
            self.check(("pick", places, TWO), len(places))
        self.check(("pick", (), NOUGHT), 0)

    def test_a_join_those_of_both_together(self):
        self.check(("join", TWO, THREE, ()), 5)
        self.check(("join", THREE, TWO, ((2, 1), (0, 0))), 5)
        self.check(("join", NOUGHT, TWO, ()), 2)
        self.check(("join", TWO, NOUGHT, ()), 2)
        self.check(("join", NOUGHT, NOUGHT, ()), 0)
        self.check(("join", ("join", TWO, TWO, ()), ("join", ONE, THREE, ()), ((3, 3),)), 8)
        self.check(("join", WIDE, ("join", WIDE, TWO, ()), ()), 2 * 10 ** 20 + 2)

    def test_a_group_its_places_and_sums_together(self):
        self.check(("group", (), (), THREE), 0)
        self.check(("group", (2,), (), THREE), 1)
        self.check(("group", (), (("sum", 0),), THREE), 1)
        self.check(("group", (0, 0, 1), (("count", 0), ("most", 2), ("least", 2), ("sum", 1)), THREE), 7)
        self.check(("group", (), (), NOUGHT), 0)

    def test_a_both_that_of_its_first(self):
        self.check(("both", TWO, TWO), 2)
        self.check(("both", NOUGHT, ("pick", (), TWO)), 0)
        self.check(("both", THREE, ("join", ONE, TWO, ())), 3)

    def test_the_others_that_of_the_query_within(self):
        clause = (("same", 0, "col", 1), ("before", 1, "is", 9))
        for query, many in ((TWO, 2), (THREE, 3), (("pick", (0, 0, 0, 0), ONE), 4)):
            self.check(("sieve", (), query), many)
            self.check(("sieve", ((), clause, clause), query), many)
            self.check(("order", (), query), many)
            self.check(("order", ((1, True), (0, False), (1, False)), query), many)
            self.check(("once", query), many)
            self.check(("first", 0, query), many)
            self.check(("first", 10 ** 40 - 1, query), many)
        for query in (("sieve", ((),), NOUGHT), ("order", (), NOUGHT), ("once", NOUGHT), ("first", 1, NOUGHT)):
            self.check(query, 0)

    def test_many_queries_are_as_wide_as_their_rows(self):
        for query in many_queries():
            many = width(query, WIDTHS)
            for tables in sets_of_tables():
                if any(len(row) != many for row in rows_of(query, tables)):
                    self.fail(f"{query} has rows of other widths than {many}")

    def test_a_query_of_forty_steps_and_a_deeper_one(self):
        for steps in (40, 80):
            query = TWO
            for at in range(steps - 1):
                joined = ("join", query, ONE, ((at // 3, 0),))
                query = (("once", query), joined, ("order", ((0, False),), query))[at % 3]
            self.check(query, 2 + (steps - 1) // 3)


class Refusing(unittest.TestCase):
    """`width`, `plan` and `planned` refuse alike."""

    def check(self, query, error, widths=TABLE_WIDTHS):
        with self.subTest(query=query):
            for refusing in (lambda: width(query, widths), lambda: plan(query, widths),
                             lambda: planned(query, widths, TABLES)):
                with self.assertRaises(error) as caught:
                    refusing()
                self.assertIs(type(caught.exception), error)


class LoneFaults(Refusing):
    def test_an_unknown_first_word(self):
        for query in (NO_STEP, ("",), ("Table", "two"), ("tables", "two"), ("sieve ", (), TWO), ("col", TWO), ("is",),
                      (0, TWO), (None, "two"), (TWO,), (TWO, TWO), (["table"], "two"), (("table",), "two"), ({}, 1)):
            self.check(query, NoStep)

    def test_a_tuple_without_a_first_word(self):
        self.check((), NoStep)
        self.check(("join", TWO, (), ()), NoStep)

    def test_an_unknown_first_word_whatever_else_is_in_the_tuple(self):
        for wrong in WRONG.values():
            self.check(("filter", wrong), NoStep)
            self.check(("filter", (), wrong), NoStep)
            self.check(("joins", wrong, wrong, ()), NoStep)
        self.check(("first of all", -1, TWO), NoStep)
        self.check(("picks", (9,), TWO), NoStep)
        self.check(("filter", [], {}, 10 ** 50, None), NoStep)

    def test_a_name_that_is_not_there(self):
        for name in ("missing", "", "Two", "two ", "table"):
            self.check(("table", name), NoTable)
        self.check(TWO, NoTable, {})

    def test_a_name_that_is_in_the_tables_alone_is_not_there(self):
        self.check(TWO, NoTable, {"three": 3})

    def test_a_count_below_nought(self):
        for count in (-1, -2, -10 ** 39):
            self.check(("first", count, TWO), NoCount)
            self.check(("first", count, NOUGHT), NoCount)

    def test_a_both_of_unlike_widths(self):
        for first, second in ((TWO, THREE), (THREE, TWO), (NOUGHT, ONE), (ONE, NOUGHT),
                              (("once", TWO), ("pick", (), TWO))):
            self.check(("both", first, second), UnlikeSides)


class PlacesThatAreNoColumn(Refusing):
    def test_in_a_pick(self):
        for place in NO_PLACES:
            self.check(("pick", (place,), TWO), NoColumn)
            self.check(("pick", (0, 1, place), TWO), NoColumn)
            self.check(("pick", (place, 0), TWO), NoColumn)
        self.check(("pick", (0,), NOUGHT), NoColumn)

    def test_in_a_clause_by_the_place_of_either_form(self):
        right = ("same", 0, "col", 1)
        for place in NO_PLACES:
            for word in ("same", "unlike", "before", "upto", "behind", "from"):
                for test in ((word, place, "is", 0), (word, place, "is", "x"), (word, place, "col", 0),
                             (word, 1, "col", place), (word, place, "col", place)):
                    for clauses in (((test,),), ((right, test),), ((test, right),), ((right,), (test,)),
                                    ((test,), (right,)), ((), (test,)), ((test,), ())):
                        self.check(("sieve", clauses, TWO), NoColumn)
        self.check(("sieve", ((("same", 0, "is", 0),),), NOUGHT), NoColumn)

    def test_a_told_cell_is_no_place(self):
        for cell in NO_PLACES:
            query = ("sieve", ((("same", 0, "is", cell),),), TWO)
            self.assertEqual(width(query, TABLE_WIDTHS), 2)
            self.assertEqual(plan(query, TABLE_WIDTHS), query)
            self.assertEqual(planned(query, TABLE_WIDTHS, TABLES), [])

    def test_in_a_groups_places(self):
        for place in NO_PLACES:
            self.check(("group", (place,), (), TWO), NoColumn)
            self.check(("group", (0, place), (("sum", 0),), TWO), NoColumn)
            self.check(("group", (place, 1), (("sum", 0),), TWO), NoColumn)

    def test_in_a_groups_sums_the_count_too(self):
        for place in NO_PLACES:
            for word in ("count", "sum", "least", "most"):
                self.check(("group", (), ((word, place),), TWO), NoColumn)
                self.check(("group", (0,), (("sum", 0), (word, place)), TWO), NoColumn)
                self.check(("group", (1, 0), ((word, place), ("count", 1)), TWO), NoColumn)
        self.check(("group", (), (("count", 0),), NOUGHT), NoColumn)

    def test_a_groups_own_columns_are_not_those_it_tells_of(self):
        self.check(("group", (0, 1), (("sum", 2),), TWO), NoColumn)
        self.check(("pick", (2,), ("group", (0, 1), (), THREE)), NoColumn)
        self.assertEqual(width(("pick", (2,), ("group", (0,), (("sum", 0), ("sum", 0)), ONE)), TABLE_WIDTHS), 1)

    def test_in_an_orders_keys(self):
        for place in NO_PLACES:
            for falling in (True, False):
                self.check(("order", ((place, falling),), TWO), NoColumn)
                self.check(("order", ((0, True), (1, False), (place, falling)), TWO), NoColumn)
                self.check(("order", ((place, falling), (0, True)), TWO), NoColumn)
        self.check(("order", ((0, False),), NOUGHT), NoColumn)

    def test_in_a_joins_pairs_the_first_by_the_first_query(self):
        for place in NO_PLACES:
            self.check(("join", TWO, THREE, ((place, 0),)), NoColumn)
            self.check(("join", TWO, WIDE, ((0, 0), (place, 1))), NoColumn)
            self.check(("join", TWO, WIDE, ((place, 1), (0, 0))), NoColumn)
        self.check(("join", NOUGHT, TWO, ((0, 0),)), NoColumn)

    def test_in_a_joins_pairs_the_second_by_the_second_query(self):
        for place in NO_PLACES:
            self.check(("join", THREE, TWO, ((0, place),)), NoColumn)
            self.check(("join", WIDE, TWO, ((0, 0), (1, place))), NoColumn)
            self.check(("join", WIDE, TWO, ((1, place), (0, 0))), NoColumn)
        self.check(("join", TWO, NOUGHT, ((0, 0),)), NoColumn)
        # Of the joined rows it would be a column, but a pair's second place is told of the second query's.
        self.check(("join", THREE, TWO, ((0, 3),)), NoColumn)

    def test_the_places_of_a_pair_are_not_told_of_each_others_rows(self):
        self.assertEqual(width(("join", THREE, TWO, ((2, 1),)), TABLE_WIDTHS), 5)
        self.check(("join", THREE, TWO, ((1, 2),)), NoColumn)
        self.check(("join", TWO, THREE, ((2, 1),)), NoColumn)
        self.assertEqual(width(("join", TWO, THREE, ((1, 2),)), TABLE_WIDTHS), 5)

    def test_the_places_next_to_them_are_columns(self):
        last = 10 ** 20 - 1
        for query in (("pick", (0, last), WIDE), ("sieve", ((("same", 0, "col", last),),), WIDE),
                      ("group", (last,), (("count", last),), WIDE), ("order", ((last, True),), WIDE),
                      ("join", WIDE, WIDE, ((last, last), (0, 0)))):
            with self.subTest(query=query):
                width(query, TABLE_WIDTHS)
                plan(query, TABLE_WIDTHS)
                planned(query, TABLE_WIDTHS, TABLES)


# For each error but NoStep: a step that is wrong by itself, around a query of two columns.
AROUND = {
    NoColumn: (lambda query: ("pick", (2,), query), lambda query: ("sieve", ((("same", 0, "col", 2),),), query),
               lambda query: ("group", (2,), (), query), lambda query: ("group", (), (("count", 2),), query),
               lambda query: ("order", ((2, True),), query), lambda query: ("join", query, ONE, ((2, 0),)),
               lambda query: ("join", ONE, query, ((0, 2),))),
    NoCount: (lambda query: ("first", -1, query),),
    UnlikeSides: (lambda query: ("both", query, THREE), lambda query: ("both", THREE, query)),
}


class TwoFaults(Refusing):
    def test_each_wrong_step_around_is_wrong_by_itself(self):
        for error, steps in AROUND.items():
            for step in steps:
                self.check(step(TWO), error)

    def test_queries_within_come_ahead_of_the_step(self):
        for error, wrong in WRONG.items():
            for steps in AROUND.values():
                for step in steps:
                    self.check(step(wrong), error)
                    self.check(step(("once", ("sieve", (), wrong))), error)

    def test_right_steps_around_refuse_nothing_of_their_own(self):
        for error, wrong in WRONG.items():
            for query in (("sieve", (), wrong), ("pick", (), wrong), ("join", wrong, TWO, ()), ("join", TWO, wrong, ()),
                          ("group", (), (), wrong), ("order", (), wrong), ("both", wrong, TWO), ("both", TWO, wrong),
                          ("once", wrong), ("first", 0, wrong)):
                self.check(query, error)

    def test_the_first_query_comes_ahead_of_the_second(self):
        for error, wrong in WRONG.items():
            for other in WRONG.values():
                self.check(("join", wrong, other, ()), error)
                self.check(("join", wrong, other, ((-1, -1),)), error)
                self.check(("both", wrong, other), error)
                self.check(("both", ("once", wrong), other), error)
                self.check(("both", ("once", ("once", wrong)), ("once", other)), error)

    def test_the_second_query_comes_ahead_of_the_step(self):
        for error, wrong in WRONG.items():
            self.check(("join", TWO, wrong, ((7, 0),)), error)
            self.check(("both", THREE, wrong), error)

    def test_an_unknown_first_word_comes_ahead_of_what_stands_within_it(self):
        for steps in AROUND.values():
            for step in steps:
                self.check(("filter", step(TWO)), NoStep)
                self.check(step(("filter", NO_TABLE)), NoStep)

    def test_the_wrong_query_may_stand_deep(self):
        for error, wrong in WRONG.items():
            query = wrong
            for _ in range(37):
                query = ("once", query)
            self.check(query, error)
            self.check(("first", -1, query), error)


class NothingIsChanged(unittest.TestCase):
    def test_the_widths_are_as_they_were(self):
        widths = dict(TABLE_WIDTHS)
        for query in (("join", TWO, THREE, ((0, 0),)), ("group", (0,), (("sum", 0),), TWO)):
            width(query, widths)
        self.assertEqual(widths, TABLE_WIDTHS)
        for error, wrong in WRONG.items():
            with self.assertRaises(error):
                width(wrong, widths)
        self.assertEqual(widths, TABLE_WIDTHS)


if __name__ == "__main__":
    unittest.main()
