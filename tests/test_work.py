"""Point 10: how many pairs of rows a query's joins look at, and that a plan's never look at more."""

import unittest

from querylang.plans import plan
from querylang.works import work
from tests.making import WIDTHS, many_queries, sets_of_tables
from tests.reference import work_of
from tests.sieving import sieved_queries

TABLES = {
    "two": [(1, 1), (2, 1)],
    "three": [(1, "a"), (1, "b"), (3, "a")],
    "five": [(1, 2), (1, 2), (2, 2), (4, 2), (5, 2)],
    "none": [],
    "bare": [(), (), (), ()],
}
TABLE_WIDTHS = {"two": 2, "three": 2, "five": 2, "none": 2, "bare": 0}

TWO = ("table", "two")
THREE = ("table", "three")
FIVE = ("table", "five")
NONE = ("table", "none")
BARE = ("table", "bare")


class ByHand(unittest.TestCase):
    def check(self, query, expected):
        with self.subTest(query=query):
            found = work(query, TABLES)
            self.assertIs(type(found), int)
            self.assertEqual(found, expected)

    def test_without_joins_there_is_none(self):
        for query in (TWO, NONE, ("sieve", ((("same", 0, "is", 1),),), FIVE), ("pick", (), FIVE), ("both", FIVE, FIVE),
                      ("group", (0,), (("count", 0),), FIVE), ("order", ((0, True),), FIVE), ("once", FIVE),
                      ("first", 2, FIVE)):
            self.check(query, 0)

    def test_a_join_looks_at_all_pairs_of_its_sides_rows(self):
        self.check(("join", TWO, THREE, ()), 6)
        self.check(("join", FIVE, FIVE, ()), 25)
        self.check(("join", BARE, THREE, ()), 12)

    def test_pairs_of_columns_make_it_no_less(self):
        for pairs in (((0, 0),), ((0, 0), (1, 1)), ((1, 0), (0, 1))):
            self.check(("join", TWO, THREE, pairs), 6)
            self.check(("join", FIVE, THREE, pairs), 15)

    def test_a_side_without_rows_is_nothing_to_look_at(self):
        self.check(("join", NONE, FIVE, ()), 0)
        self.check(("join", FIVE, NONE, ()), 0)

    def test_joins_within_joins_all_count(self):
        # Two rows by three, without pairs six rows, and these by five.
        self.check(("join", ("join", TWO, THREE, ()), FIVE, ()), 6 + 30)
        self.check(("join", FIVE, ("join", TWO, THREE, ()), ()), 6 + 30)
        # One pair lets two of the six through.
        self.check(("join", ("join", TWO, THREE, ((0, 0),)), FIVE, ()), 6 + 10)
        self.check(("join", ("join", TWO, THREE, ((0, 0),)), ("join", FIVE, TWO, ((0, 0),)), ((0, 0),)), 6 + 10 + 2 * 3)
        # The inner join counts although the outer one has nothing to look at.
        self.check(("join", ("join", TWO, THREE, ()), NONE, ()), 6)
        self.check(("join", NONE, ("join", TWO, THREE, ()), ()), 6)

    def test_joins_within_the_other_steps_count(self):
        joined = ("join", TWO, THREE, ())
        for query in (("sieve", ((),), joined), ("pick", (0,), joined), ("group", (), (), joined),
                      ("order", (), joined), ("once", joined), ("first", 0, joined),
                      ("both", joined, ("pick", (0, 0, 0, 0), TWO)), ("both", ("pick", (0, 0, 0, 0), TWO), joined)):
            self.check(query, 6)
        self.check(("both", joined, joined), 12)
        self.check(("both", joined, ("join", FIVE, THREE, ((0, 0),))), 21)

    def test_steps_within_a_join_tell_how_many_rows_it_looks_at(self):
        sieved = ("sieve", ((("same", 0, "is", 1),),), FIVE)
        for side, many in ((sieved, 2), (("sieve", ((),), FIVE), 0), (("once", FIVE), 4), (("pick", (1,), FIVE), 5),
                           (("once", ("pick", (1,), FIVE)), 1), (("group", (0,), (), FIVE), 4), (("first", 3, FIVE), 3),
                           (("first", 10 ** 39, FIVE), 5), (("both", FIVE, TWO), 7), (("order", ((0, True),), FIVE), 5),
                           (("group", (), (("count", 0),), NONE), 0)):
            self.check(("join", side, THREE, ()), 3 * many)
            self.check(("join", THREE, side, ()), 3 * many)
            self.check(("join", side, side, ()), many * many)

    def test_a_sieve_above_a_join_makes_it_no_less_but_its_plan_does(self):
        clauses = ((("same", 0, "is", 1),), (("same", 1, "col", 2),))
        query = ("sieve", clauses, ("join", FIVE, ("join", TWO, FIVE, ()), ()))
        self.check(query, 10 + 50)
        self.check(plan(query, TABLE_WIDTHS), 10 + 20)
        query = ("sieve", ((("same", 1, "col", 2),),), ("join", ("join", FIVE, TWO, ()), THREE, ()))
        self.check(query, 10 + 30)
        # Each of the five goes with one of the two alone, so five rows go on to the outer join.
        self.check(plan(query, TABLE_WIDTHS), 10 + 15)
        query = ("sieve", ((),), ("join", ("join", FIVE, TWO, ()), ("join", THREE, FIVE, ()), ()))
        self.check(query, 10 + 15 + 150)
        self.assertLessEqual(work(plan(query, TABLE_WIDTHS), TABLES), 25)


class Plans(unittest.TestCase):
    def test_many_queries_have_the_work_that_the_plainest_reading_gives(self):
        for tables in sets_of_tables():
            for query in many_queries():
                if work(query, tables) != work_of(query, tables):
                    self.fail(f"{query} over {tables}: {work(query, tables)}")

    def test_the_work_of_a_plan_is_never_more_than_that_of_its_query(self):
        less = 0
        for tables in sets_of_tables():
            for query in [*sieved_queries(), *many_queries()]:
                planned = plan(query, WIDTHS)
                mine, theirs = work_of(query, tables), work(planned, tables)
                if theirs > mine:
                    self.fail(f"{planned} looks at {theirs} pairs of {tables}, not at {mine}")
                self.assertLessEqual(work(plan(planned, WIDTHS), tables), theirs)
                less += theirs < mine
        # Were it never less, the plans would be of no use.
        self.assertGreater(less, 100)

    def test_a_query_of_forty_steps(self):
        query = ("once", FIVE)
        for _ in range(19):
            query = ("pick", (0, 3), ("join", query, ("first", 1, FIVE), ()))
        self.assertEqual(work(query, TABLES), 19 * 4)
        self.assertLessEqual(work(plan(query, TABLE_WIDTHS), TABLES), 19 * 4)
        sieved = ("sieve", ((("before", 1, "is", 2),),), query[2])
        self.assertEqual(work(sieved, TABLES), 19 * 4)
        self.assertLess(work(plan(sieved, TABLE_WIDTHS), TABLES), 19 * 4)

    def test_the_tables_are_as_they_were(self):
        tables = {name: list(rows) for name, rows in TABLES.items()}
        query = ("join", ("once", FIVE), ("join", TWO, ("order", (), THREE), ((0, 0),)), ())
        self.assertEqual([work(query, tables), work(query, tables)], [6 + 8, 6 + 8])
        self.assertEqual(tables, TABLES)


if __name__ == "__main__":
    unittest.main()
