"""Points 3 and 6: the rows of each of the nine steps, in their order. Points 1 and 2 as far as steps compare cells."""

import unittest

from querylang.errors import NoStep, NoTable
from querylang.plain import answer
from tests.making import WIDTHS, many_queries, sets_of_tables
from tests.reference import rows_of

LARGE = 10 ** 60 - 1

TABLES = {
    "goods": [(1, "nail", 5), (2, "screw", 7), (3, "nail", 5), (1, "nail", 5), (2, "bolt", "none")],
    "marks": [(5, "low"), (7, "high"), (5, "old"), ("none", "?")],
    "mixed": [("1",), (1,), ("a",), (-1,), ("",), (0,), ("1",), (1,)],
    "none": [],
    "bare": [(), (), ()],
    "lone": [(4, 4)],
}

GOODS = ("table", "goods")
MARKS = ("table", "marks")
MIXED = ("table", "mixed")
NONE = ("table", "none")
BARE = ("table", "bare")
LONE = ("table", "lone")


class Answers(unittest.TestCase):
    def check(self, query, rows, tables=TABLES):
        with self.subTest(query=query):
            found = answer(query, tables)
            self.assertIs(type(found), list)
            for row in found:
                self.assertIs(type(row), tuple)
            # Compared as texts, 1 and "1" are told apart, and so are 1 and True.
            self.assertEqual(repr(found), repr(rows))


class TableSteps(Answers):
    def test_the_rows_stand_as_they_do_in_the_table(self):
        self.check(GOODS, [(1, "nail", 5), (2, "screw", 7), (3, "nail", 5), (1, "nail", 5), (2, "bolt", "none")])
        self.check(MIXED, [("1",), (1,), ("a",), (-1,), ("",), (0,), ("1",), (1,)])

    def test_a_table_may_have_no_rows_and_rows_no_columns(self):
        self.check(NONE, [])
        self.check(BARE, [(), (), ()])

    def test_the_name_may_be_any_text(self):
        for name in ("", "table", "sieve", " ", "no such step"):
            self.check(("table", name), [(1,)], {name: [(1,)], "other": [(2,)]})


class SieveSteps(Answers):
    def test_every_clause_has_to_hold(self):
        first = (("same", 1, "is", "nail"),)
        second = (("before", 0, "is", 3),)
        self.check(("sieve", (first,), GOODS), [(1, "nail", 5), (3, "nail", 5), (1, "nail", 5)])
        self.check(("sieve", (second,), GOODS),
                   [(1, "nail", 5), (2, "screw", 7), (1, "nail", 5), (2, "bolt", "none")])
        for clauses in ((first, second), (second, first), (first, second, first)):
            self.check(("sieve", clauses, GOODS), [(1, "nail", 5), (1, "nail", 5)])

    def test_one_test_of_a_clause_is_enough(self):
        clause = (("same", 1, "is", "bolt"), ("same", 0, "is", 3))
        self.check(("sieve", (clause,), GOODS), [(3, "nail", 5), (2, "bolt", "none")])

    def test_a_sieve_of_no_clauses_keeps_all_rows(self):
        self.check(("sieve", (), GOODS), TABLES["goods"])
        self.check(("sieve", (), BARE), [(), (), ()])
        self.check(("sieve", (), NONE), [])

    def test_a_clause_without_tests_keeps_none(self):
        holding = (("from", 0, "is", 0),)
        for clauses in (((),), ((), ()), ((), holding), (holding, ())):
            self.check(("sieve", clauses, GOODS), [])
        self.check(("sieve", ((),), BARE), [])
        self.check(("sieve", ((),), NONE), [])

    def test_a_clause_compares_two_columns(self):
        self.check(("sieve", ((("same", 0, "col", 1),),), ("both", LONE, MARKS)), [(4, 4)])
        self.check(("sieve", ((("before", 2, "col", 0),),), ("both", GOODS, ("pick", (1, 0, 1), LONE))), [])
        self.check(("sieve", ((("behind", 2, "col", 1),),), GOODS), [(2, "bolt", "none")])

    def test_a_number_is_no_text_in_a_sieve(self):
        self.check(("sieve", ((("same", 0, "is", 1),),), MIXED), [(1,), (1,)])
        self.check(("sieve", ((("same", 0, "is", "1"),),), MIXED), [("1",), ("1",)])
        self.check(("sieve", ((("before", 0, "is", ""),),), MIXED), [(1,), (-1,), (0,), (1,)])


class PickSteps(Answers):
    def test_the_cells_stand_in_the_order_of_the_places(self):
        self.check(("pick", (2, 0), GOODS), [(5, 1), (7, 2), (5, 3), (5, 1), ("none", 2)])
        self.check(("pick", (1,), GOODS), [("nail",), ("screw",), ("nail",), ("nail",), ("bolt",)])

    def test_a_place_may_stand_twice(self):
        self.check(("pick", (1, 1), MARKS), [("low", "low"), ("high", "high"), ("old", "old"), ("?", "?")])
        self.check(("pick", (0, 1, 0, 0), LONE), [(4, 4, 4, 4)])

    def test_a_pick_may_have_no_places(self):
        self.check(("pick", (), MARKS), [(), (), (), ()])
        self.check(("pick", (), BARE), [(), (), ()])
        self.check(("pick", (), NONE), [])

    def test_rows_that_become_alike_all_stay(self):
        self.check(("pick", (0,), MARKS), [(5,), (7,), (5,), ("none",)])


class JoinSteps(Answers):
    def test_rows_go_together_where_the_cells_of_a_pair_are_alike(self):
        self.check(("join", GOODS, MARKS, ((2, 0),)), [
            (1, "nail", 5, 5, "low"), (1, "nail", 5, 5, "old"), (2, "screw", 7, 7, "high"),
            (3, "nail", 5, 5, "low"), (3, "nail", 5, 5, "old"), (1, "nail", 5, 5, "low"), (1, "nail", 5, 5, "old"),
            (2, "bolt", "none", "none", "?")])

    def test_the_first_querys_rows_tell_the_order_and_then_the_seconds(self):
        self.check(("join", MARKS, GOODS, ((0, 2),)), [
            (5, "low", 1, "nail", 5), (5, "low", 3, "nail", 5), (5, "low", 1, "nail", 5), (7, "high", 2, "screw", 7),
            (5, "old", 1, "nail", 5), (5, "old", 3, "nail", 5), (5, "old", 1, "nail", 5),
            ("none", "?", 2, "bolt", "none")])

    def test_without_pairs_all_go_together(self):
        tables = {"a": [(1,), (2,)], "b": [("x",), ("y",), ("x",)]}
        self.check(("join", ("table", "a"), ("table", "b"), ()), [
            (1, "x"), (1, "y"), (1, "x"), (2, "x"), (2, "y"), (2, "x")], tables)

    def test_every_pair_has_to_be_alike(self):
        tables = {"a": [(1, 2), (2, 1), (1, 1)], "b": [(1, 2), (1, 1), (2, 2)]}
        sides = (("table", "a"), ("table", "b"))
        self.check(("join", *sides, ((0, 0), (1, 1))), [(1, 2, 1, 2), (1, 1, 1, 1)], tables)
        self.check(("join", *sides, ((0, 1), (1, 0))), [(2, 1, 1, 2), (1, 1, 1, 1)], tables)
        self.check(("join", *sides, ((0, 0), (1, 0))), [(1, 1, 1, 2), (1, 1, 1, 1)], tables)
        self.check(("join", *sides, ((0, 0), (0, 1), (1, 1), (1, 0), (0, 0))), [(1, 1, 1, 1)], tables)

    def test_a_table_may_stand_on_both_sides(self):
        tables = {"a": [(1, 2), (2, 3), (3, 1), (2, 2)]}
        self.check(("join", ("table", "a"), ("table", "a"), ((1, 0),)), [
            (1, 2, 2, 3), (1, 2, 2, 2), (2, 3, 3, 1), (3, 1, 1, 2), (2, 2, 2, 3), (2, 2, 2, 2)], tables)

    def test_without_rows_on_a_side_there_are_none(self):
        self.check(("join", NONE, GOODS, ()), [])
        self.check(("join", GOODS, NONE, ()), [])
        self.check(("join", NONE, NONE, ()), [])

    def test_rows_without_columns_go_together_too(self):
        self.check(("join", BARE, LONE, ()), [(4, 4)] * 3)
        self.check(("join", LONE, BARE, ()), [(4, 4)] * 3)
        self.check(("join", BARE, BARE, ()), [()] * 9)

    def test_a_number_never_goes_with_the_text_of_its_figures(self):
        tables = {"a": [(1,), ("1",), (LARGE,)], "b": [("1", 0), (1, 2), (str(LARGE), 3), (LARGE, 4)]}
        self.check(("join", ("table", "a"), ("table", "b"), ((0, 0),)), [
            (1, 1, 2), ("1", "1", 0), (LARGE, LARGE, 4)], tables)


class GroupSteps(Answers):
    def test_groups_stand_in_the_order_of_their_first_rows(self):
        self.check(("group", (1,), (("count", 1),), GOODS), [("nail", 3), ("screw", 1), ("bolt", 1)])
        self.check(("group", (0,), (("count", 2),), GOODS), [(1, 2), (2, 2), (3, 1)])
        self.check(("group", (2, 1), (), GOODS), [(5, "nail"), (7, "screw"), ("none", "bolt")])

    def test_rows_are_one_group_where_they_are_alike_at_all_the_places(self):
        self.check(("group", (1, 0), (("count", 0),), GOODS), [
            ("nail", 1, 2), ("screw", 2, 1), ("nail", 3, 1), ("bolt", 2, 1)])

    def test_a_place_may_stand_twice(self):
        self.check(("group", (0, 0), (("sum", 0), ("sum", 0)), MARKS), [
            (5, 5, 10, 10), (7, 7, 7, 7), ("none", "none", 0, 0)])

    def test_without_places_all_rows_are_one_group(self):
        self.check(("group", (), (("count", 0), ("sum", 0)), GOODS), [(5, 9)])
        self.check(("group", (), (), GOODS), [()])
        self.check(("group", (), (), BARE), [()])

    def test_without_rows_there_is_no_group(self):
        self.check(("group", (), (), NONE), [])
        for word in ("count", "sum", "least", "most"):
            self.check(("group", (), ((word, 0),), NONE), [])
            self.check(("group", (0,), ((word, 1),), NONE), [])

    def test_without_sums_the_groups_own_cells_stand_alone(self):
        self.check(("group", (1,), (), GOODS), [("nail",), ("screw",), ("bolt",)])

    def test_count_counts_all_rows_whatever_their_cells(self):
        self.check(("group", (), (("count", 0),), MIXED), [(8,)])
        self.check(("group", (0,), (("count", 0),), MIXED), [
            ("1", 2), (1, 2), ("a", 1), (-1, 1), ("", 1), (0, 1)])

    def test_sum_passes_texts_over(self):
        self.check(("group", (), (("sum", 0),), MIXED), [(1,)])
        self.check(("group", (0,), (("sum", 2),), GOODS), [(1, 10), (2, 7), (3, 5)])
        self.check(("group", (1,), (("sum", 1),), GOODS), [("nail", 0), ("screw", 0), ("bolt", 0)])

    def test_a_sum_may_have_more_than_sixty_figures(self):
        tables = {"a": [(LARGE,), (LARGE,), (1,), (-LARGE,), (LARGE,), (LARGE,)]}
        self.check(("group", (), (("sum", 0), ("most", 0), ("least", 0)), ("table", "a")),
                   [(3 * LARGE + 1, LARGE, -LARGE)], tables)
        self.check(("group", (), (("sum", 0),), ("first", 2, ("table", "a"))), [(2 * LARGE,)], tables)

    def test_least_and_most_over_numbers(self):
        tables = {"a": [(3,), (-2,), (10,), (9,), (-10,)]}
        self.check(("group", (), (("least", 0), ("most", 0)), ("table", "a")), [(-10, 10)], tables)

    def test_least_and_most_over_texts(self):
        tables = {"a": [("b",), ("Z",), ("10",), ("9",), ("ba",)]}
        self.check(("group", (), (("least", 0), ("most", 0)), ("table", "a")), [("10", "ba")], tables)

    def test_least_and_most_over_both(self):
        self.check(("group", (), (("least", 0), ("most", 0)), MIXED), [(-1, "a")])
        tables = {"a": [("",), (LARGE,)], "b": [(LARGE,), ("",)]}
        for name in "ab":
            self.check(("group", (), (("least", 0), ("most", 0)), ("table", name)), [(LARGE, "")], tables)

    def test_sums_stand_in_their_order_behind_the_places(self):
        self.check(("group", (1,), (("most", 0), ("least", 0), ("sum", 0), ("count", 0), ("most", 2)), GOODS), [
            ("nail", 3, 1, 5, 3, 5), ("screw", 2, 2, 2, 1, 7), ("bolt", 2, 2, 2, 1, "none")])

    def test_a_number_and_the_text_of_its_figures_are_two_groups(self):
        tables = {"a": [(1, "x"), ("1", "x"), (1, "y"), ("1", "y"), ("1", "z")]}
        self.check(("group", (0,), (("count", 0), ("most", 1)), ("table", "a")), [(1, 2, "y"), ("1", 3, "z")], tables)


class OrderSteps(Answers):
    ROWS = [
        (2, "b", 0), (10, "a", 1), ("2", "b", 2), (2, "a", 3), ("", "b", 4), (-3, "a", 5), (2, "b", 6), ("10", "a", 7),
    ]

    def last_cells(self, keys, rows=None):
        tables = {"a": self.ROWS if rows is None else rows}
        return [row[-1] for row in answer(("order", keys, ("table", "a")), tables)]

    def test_numbers_stand_before_texts_rising(self):
        self.assertEqual(self.last_cells(((0, False),)), [5, 0, 3, 6, 1, 4, 7, 2])

    def test_falling_turns_them_but_not_those_that_are_alike(self):
        self.assertEqual(self.last_cells(((0, True),)), [2, 7, 4, 1, 0, 3, 6, 5])
        self.assertEqual(self.last_cells(((1, True),)), [0, 2, 4, 6, 1, 3, 5, 7])

    def test_the_first_key_tells_first_and_the_next_where_cells_are_alike(self):
        self.assertEqual(self.last_cells(((1, False), (0, False))), [5, 3, 1, 7, 0, 6, 4, 2])
        self.assertEqual(self.last_cells(((1, False), (0, True))), [7, 1, 3, 5, 2, 4, 0, 6])
        self.assertEqual(self.last_cells(((1, True), (0, False))), [0, 6, 4, 2, 5, 3, 1, 7])
        self.assertEqual(self.last_cells(((0, False), (1, True))), [5, 0, 6, 3, 1, 4, 7, 2])

    def test_many_keys(self):
        rows = [(a, b, c, (a, b, c)) for c in (1, 0) for a in ("x", 0, 1) for b in (5, "")]
        found = self.last_cells(((1, False), (2, False), (0, True)), rows)
        self.assertEqual(found, [
            ("x", 5, 0), (1, 5, 0), (0, 5, 0), ("x", 5, 1), (1, 5, 1), (0, 5, 1),
            ("x", "", 0), (1, "", 0), (0, "", 0), ("x", "", 1), (1, "", 1), (0, "", 1)])

    def test_rows_that_no_key_parts_keep_their_order(self):
        self.assertEqual(self.last_cells(()), [0, 1, 2, 3, 4, 5, 6, 7])
        self.assertEqual(self.last_cells(((1, False),)), [1, 3, 5, 7, 0, 2, 4, 6])
        self.assertEqual(self.last_cells(((1, False), (1, True))), [1, 3, 5, 7, 0, 2, 4, 6])
        self.assertEqual(self.last_cells(((1, True), (1, False))), [0, 2, 4, 6, 1, 3, 5, 7])

    def test_numbers_stand_by_their_sizes_and_large_ones_to_the_last_figure(self):
        rows = [(LARGE,), (LARGE - 1,), (9,), (10,), (-LARGE,), (1 - LARGE,)]
        rising = [-LARGE, 1 - LARGE, 9, 10, LARGE - 1, LARGE]
        self.assertEqual(self.last_cells(((0, False),), rows), rising)
        self.assertEqual(self.last_cells(((0, True),), rows), rising[::-1])

    def test_rows_that_are_alike_all_stay(self):
        self.check(("order", ((0, False),), MIXED), [(-1,), (0,), (1,), (1,), ("",), ("1",), ("1",), ("a",)])
        self.check(("order", ((0, True),), MIXED), [("a",), ("1",), ("1",), ("",), (1,), (1,), (0,), (-1,)])

    def test_there_may_be_no_rows_and_no_columns(self):
        self.check(("order", ((0, False), (1, True)), NONE), [])
        self.check(("order", (), NONE), [])
        self.check(("order", (), BARE), [(), (), ()])


class BothSteps(Answers):
    def test_the_first_querys_rows_come_ahead_of_the_seconds(self):
        self.check(("both", LONE, MARKS), [(4, 4), (5, "low"), (7, "high"), (5, "old"), ("none", "?")])
        self.check(("both", MARKS, LONE), [(5, "low"), (7, "high"), (5, "old"), ("none", "?"), (4, 4)])

    def test_all_rows_stay_alike_ones_too(self):
        self.check(("both", LONE, LONE), [(4, 4), (4, 4)])
        self.check(("both", BARE, BARE), [()] * 6)

    def test_a_side_may_have_no_rows(self):
        self.check(("both", NONE, LONE), [(4, 4)])
        self.check(("both", LONE, NONE), [(4, 4)])
        self.check(("both", NONE, NONE), [])


class OnceSteps(Answers):
    def test_the_first_of_rows_that_are_alike_stays(self):
        self.check(("once", GOODS), [(1, "nail", 5), (2, "screw", 7), (3, "nail", 5), (2, "bolt", "none")])
        self.check(("once", ("pick", (0,), GOODS)), [(1,), (2,), (3,)])

    def test_a_number_is_no_text(self):
        self.check(("once", MIXED), [("1",), (1,), ("a",), (-1,), ("",), (0,)])

    def test_all_cells_have_to_be_alike(self):
        tables = {"a": [(1, 2), (2, 1), (1, "2"), ("1", 2), (1, 2), (1, 1)]}
        self.check(("once", ("table", "a")), [(1, 2), (2, 1), (1, "2"), ("1", 2), (1, 1)], tables)

    def test_rows_without_columns_are_all_alike(self):
        self.check(("once", BARE), [()])
        self.check(("once", NONE), [])


class FirstSteps(Answers):
    def test_the_first_so_many_rows_stay(self):
        for count in range(9):
            self.check(("first", count, GOODS), TABLES["goods"][:count] if count < 5 else TABLES["goods"])

    def test_nought_keeps_none(self):
        self.check(("first", 0, GOODS), [])
        self.check(("first", 0, NONE), [])

    def test_a_count_of_forty_figures_keeps_all(self):
        for count in (10 ** 39, 10 ** 40 - 1, 2 ** 63, 2 ** 64):
            self.check(("first", count, GOODS), TABLES["goods"])
            self.check(("first", count, NONE), [])
            self.check(("first", count, BARE), [(), (), ()])


class Refusals(unittest.TestCase):
    def test_an_unknown_first_word_is_refused_with_no_step(self):
        for query in (("tables", "goods"), ("", GOODS), ("Table", "goods"), ("sieves", (), GOODS), ("no",), (7, GOODS),
                      (None,), (GOODS, MARKS), (["table"], "goods"), ()):
            with self.subTest(query=query):
                with self.assertRaises(NoStep):
                    answer(query, TABLES)

    def test_an_unknown_first_word_is_found_within_each_step(self):
        wrong = ("filter", (), GOODS)
        for query in around(wrong):
            with self.subTest(query=query):
                with self.assertRaises(NoStep):
                    answer(query, TABLES)

    def test_an_unknown_first_word_comes_ahead_of_what_else_is_in_its_tuple(self):
        for query in (("filter", ("table", "missing")), ("filter", ("table", "missing"), 3), ("filter",)):
            with self.assertRaises(NoStep):
                answer(query, TABLES)

    def test_a_table_that_is_not_there_is_refused_with_no_table(self):
        missing = ("table", "missing")
        for query in (missing, ("table", ""), ("table", "Goods"), *around(missing)):
            with self.subTest(query=query):
                with self.assertRaises(NoTable):
                    answer(query, TABLES)
        with self.assertRaises(NoTable):
            answer(GOODS, {})


def around(query):
    """Each of the nine steps but a table around the query, on either side of it, with rows and without."""
    return (
        ("sieve", (), query), ("sieve", ((),), query), ("pick", (), query), ("group", (), (), query),
        ("order", (), query), ("once", query), ("first", 0, query), ("first", 3, query),
        ("both", query, LONE), ("both", LONE, query), ("both", NONE, query), ("join", query, LONE, ()),
        ("join", LONE, query, ()), ("join", NONE, query, ()), ("join", query, NONE, ()),
    )


class NothingIsKept(unittest.TestCase):
    QUERIES = (
        GOODS, NONE, BARE, ("sieve", (), GOODS), ("sieve", ((("from", 0, "is", 0),),), GOODS),
        ("pick", (0, 1, 2), GOODS), ("join", GOODS, LONE, ()), ("join", GOODS, MARKS, ((2, 0),)),
        ("group", (0,), (("count", 0),), GOODS),
        ("order", (), GOODS), ("order", ((0, False),), GOODS), ("order", ((0, True), (1, False)), GOODS),
        ("both", GOODS, GOODS), ("both", GOODS, NONE), ("both", NONE, GOODS), ("once", GOODS),
        ("first", 10 ** 39, GOODS), ("first", 5, GOODS), ("sieve", (), ("order", (), ("first", 9, GOODS))),
    )

    def test_what_comes_back_may_be_changed(self):
        for query in self.QUERIES:
            tables = {name: list(rows) for name, rows in TABLES.items()}
            with self.subTest(query=query):
                found = answer(query, tables)
                rows = list(found)
                found.append("more")
                found.reverse()
                self.assertEqual(tables, TABLES)
                self.assertEqual(answer(query, tables), rows)
                found.clear()
                self.assertEqual(tables, TABLES)
                self.assertEqual(answer(query, tables), rows)

    def test_the_tables_own_lists_never_come_back(self):
        for query in self.QUERIES:
            found = answer(query, TABLES)
            with self.subTest(query=query):
                self.assertFalse(any(found is rows for rows in TABLES.values()))

    def test_tables_that_are_changed_later_do_not_change_what_came_back(self):
        tables = {"goods": [(1,), (2,)]}
        found = answer(GOODS, tables)
        tables["goods"].append((3,))
        self.assertEqual(found, [(1,), (2,)])
        self.assertEqual(answer(GOODS, tables), [(1,), (2,), (3,)])


class StepsUponSteps(Answers):
    def test_steps_upon_steps_by_hand(self):
        joined = ("join", GOODS, MARKS, ((2, 0),))
        counted = ("group", (1,), (("count", 0), ("sum", 0)), joined)
        self.check(counted, [("nail", 6, 10), ("screw", 1, 2), ("bolt", 1, 2)])
        self.check(("order", ((1, False), (0, False)), counted), [("bolt", 1, 2), ("screw", 1, 2), ("nail", 6, 10)])
        self.check(("first", 1, ("pick", (0,), ("order", ((2, True),), counted))), [("nail",)])

    def test_a_query_of_forty_steps(self):
        query = GOODS
        for at in range(39):
            query = (("order", ((0, at % 2 == 0),), query), ("sieve", ((("before", 0, "is", 3),),), query),
                     ("both", query, ("first", 1, GOODS)))[at % 3]
        self.check(query, rows_of(query, TABLES))
        deep = GOODS
        for _ in range(39):
            deep = ("once", deep)
        self.check(deep, [(1, "nail", 5), (2, "screw", 7), (3, "nail", 5), (2, "bolt", "none")])

    def test_many_queries_have_the_rows_that_the_plainest_reading_gives(self):
        for tables in sets_of_tables():
            before = {name: list(rows) for name, rows in tables.items()}
            for query in many_queries():
                expected = rows_of(query, tables)
                found = answer(query, tables)
                if repr(found) != repr(expected):
                    self.fail(f"{query} over {tables}: {found}, not {expected}")
            self.assertEqual(tables, before)
            self.assertEqual(set(tables), set(WIDTHS))


if __name__ == "__main__":
    unittest.main()
