"""Point 9: each sentence by a test of its own, over many queries, and plans told by hand."""

import unittest
from functools import lru_cache

from querylang.plain import answer
from querylang.plans import plan, planned
from querylang.shapes import width
from tests import promises
from tests.making import WIDTHS, many_queries, sets_of_tables
from tests.reference import rows_of
from tests.sieving import sieved_queries

A = ("table", "a")
B = ("table", "b")
C = ("table", "c")
D = ("table", "d")


def same(place, other):
    return (("same", place, "col", other),)


def told(place, cell=1, word="same"):
    return ((word, place, "is", cell),)


def sieve(clauses, query):
    return ("sieve", tuple(clauses), query)


def all_queries():
    return [*sieved_queries(), *many_queries()]


@lru_cache
def queries_with_plans():
    """Each query with its plan, and each of these plans with its own plan."""
    planned_once = [(query, plan(query, WIDTHS)) for query in all_queries()]
    return planned_once + [(found, plan(found, WIDTHS)) for _, found in planned_once]


class EachSentence(unittest.TestCase):
    """Each sentence holds for the plan of each query, and for the plan of that plan."""

    def check(self, faults_of):
        for query, found in queries_with_plans():
            faults = faults_of(query, found)
            if faults:
                self.fail(f"the plan of {query} is {found}: {faults[:3]}")

    def test_its_rows_are_the_querys_in_the_same_order(self):
        sets = sets_of_tables()
        for query in all_queries():
            plan_of_it = plan(query, WIDTHS)
            faults = promises.other_rows(query, plan_of_it, sets)
            if faults:
                self.fail(f"the plan of {query} is {plan_of_it}, with other rows over {faults[0]}")

    def test_the_rows_of_the_plan_of_a_plan_are_the_querys_too(self):
        sets = sets_of_tables()[2:6]
        for query in many_queries():
            again = plan(plan(query, WIDTHS), WIDTHS)
            self.assertEqual(promises.other_rows(query, again, sets), [])

    def test_without_sieves_and_pairs_it_is_the_query(self):
        self.check(promises.other_steps)

    def test_the_querys_pairs_are_the_first_ones_of_each_join(self):
        self.check(promises.lost_pairs)

    def test_within_each_first_stands_the_plan_of_what_stands_there(self):
        self.check(lambda query, found: promises.sieves_through_firsts(query, found, WIDTHS))

    def test_no_sieve_has_no_clauses(self):
        self.check(lambda query, found: promises.sieves_without_clauses(found))

    def test_no_sieve_stands_on_a_sieve_a_pick_an_order_a_once_or_a_both(self):
        self.check(lambda query, found: promises.sieves_that_stand_too_high(found))

    def test_a_clause_on_a_join_has_places_on_both_sides(self):
        self.check(lambda query, found: promises.clauses_of_one_side_on_joins(found, WIDTHS))

    def test_a_clause_on_a_join_is_no_lone_same_of_two_columns(self):
        self.check(lambda query, found: promises.lone_sames_on_joins(found))

    def test_a_clause_on_a_group_has_a_place_that_is_none_of_the_groups_own(self):
        self.check(lambda query, found: promises.clauses_of_own_places_on_groups(found))

    def test_all_that_comes_back_is_tuples(self):
        self.check(lambda query, found: promises.what_is_no_tuple(found))

    def test_it_is_right_and_as_wide_as_the_query(self):
        self.check(lambda query, found: [] if width(query, WIDTHS) == width(found, WIDTHS) else [found])


class ByHand(unittest.TestCase):
    def check(self, query, expected):
        with self.subTest(query=query):
            self.assertEqual(in_order(plan(query, WIDTHS)), in_order(expected))
            for tables in sets_of_tables():
                rows = rows_of(query, tables)
                self.assertEqual(repr(planned(query, WIDTHS, tables)), repr(rows))
                self.assertEqual(repr(rows_of(expected, tables)), repr(rows))


def in_order(query):
    """The query with the clauses of each sieve in an order of ours, as theirs is not promised."""
    parts = tuple(in_order(part) if part in promises.queries_within(query) else part for part in query)
    if query[0] == "sieve":
        return ("sieve", tuple(sorted(query[1], key=repr)), *parts[2:])
    return parts


class WithoutSieves(ByHand):
    def test_a_query_without_sieves_is_its_own_plan(self):
        for query in (A, D, ("pick", (1, 0), A), ("join", A, B, ()), ("join", A, B, ((0, 2), (1, 1))),
                      ("group", (1,), (("sum", 0),), B), ("order", ((0, True),), A), ("both", A, A), ("once", D),
                      ("first", 3, A), ("first", 0, ("both", ("once", A), ("pick", (2, 0), B)))):
            self.check(query, query)

    def test_a_sieve_of_no_clauses_is_gone(self):
        self.check(sieve((), A), A)
        self.check(sieve((), sieve((), ("join", sieve((), A), ("first", 2, sieve((), B)), ()))),
                   ("join", A, ("first", 2, B), ()))


class OnEachStep(ByHand):
    def test_on_a_table_it_stays(self):
        for clauses in ([told(0)], [told(0), same(0, 1)], [()], [told(1) + told(0, 2), ()]):
            self.check(sieve(clauses, A), sieve(clauses, A))

    def test_sieves_upon_a_sieve_become_one(self):
        self.check(sieve([told(0)], sieve([told(1)], A)), sieve([told(0), told(1)], A))
        self.check(sieve([told(0)], sieve((), sieve([told(1), same(0, 1)], sieve([told(0)], A)))),
                   sieve([told(0), told(1), same(0, 1), told(0)], A))

    def test_a_clause_goes_through_a_pick_by_its_places(self):
        self.check(sieve([told(0, 5), same(0, 1) + told(2, 2, "before")], ("pick", (2, 0, 1), B)),
                   ("pick", (2, 0, 1), sieve([told(2, 5), same(2, 0) + told(1, 2, "before")], B)))
        self.check(sieve([same(0, 1)], ("pick", (1, 1), A)), ("pick", (1, 1), sieve([same(1, 1)], A)))
        self.check(sieve([()], ("pick", (), A)), ("pick", (), sieve([()], A)))

    def test_a_clause_goes_through_an_order_and_a_once(self):
        self.check(sieve([told(0), ()], ("order", ((1, True),), A)), ("order", ((1, True),), sieve([told(0), ()], A)))
        self.check(sieve([told(0)], ("once", A)), ("once", sieve([told(0)], A)))
        self.check(sieve([()], ("once", D)), ("once", sieve([()], D)))

    def test_a_clause_goes_to_both_sides_of_a_both(self):
        self.check(sieve([told(0), same(1, 0)], ("both", A, ("pick", (2, 1), B))),
                   ("both", sieve([told(0), same(1, 0)], A), ("pick", (2, 1), sieve([told(2), same(1, 2)], B))))

    def test_no_clause_goes_through_a_first(self):
        for count in (0, 1, 10 ** 39):
            self.check(sieve([told(0)], ("first", count, A)), sieve([told(0)], ("first", count, A)))
        self.check(sieve([()], ("first", 2, D)), sieve([()], ("first", 2, D)))
        self.check(sieve([told(1)], ("once", ("first", 2, ("once", sieve([told(0)], ("order", (), A)))))),
                   ("once", sieve([told(1)], ("first", 2, ("once", ("order", (), sieve([told(0)], A)))))))


class OnJoins(ByHand):
    def test_a_clause_of_one_side_goes_to_that_side(self):
        self.check(sieve([told(1)], ("join", A, B, ())), ("join", sieve([told(1)], A), B, ()))
        self.check(sieve([told(2)], ("join", A, B, ())), ("join", A, sieve([told(0)], B), ()))
        self.check(sieve([told(4, 7), told(0, 8), told(2) + told(3, 2)], ("join", A, B, ((0, 0),))),
                   ("join", sieve([told(0, 8)], A), sieve([told(2, 7), told(0) + told(1, 2)], B), ((0, 0),)))

    def test_the_last_place_of_the_first_and_the_first_of_the_second(self):
        for word in ("unlike", "before", "upto", "behind", "from"):
            left = ((word, 0, "col", 1),)
            right = ((word, 4, "col", 2),)
            self.check(sieve([left, right], ("join", A, B, ())),
                       ("join", sieve([left], A), sieve([((word, 2, "col", 0),)], B), ()))

    def test_a_told_cell_is_no_place(self):
        self.check(sieve([told(0, 3), told(3, 0)], ("join", A, B, ())),
                   ("join", sieve([told(0, 3)], A), sieve([told(1, 0)], B), ()))

    def test_a_lone_same_across_becomes_a_pair(self):
        self.check(sieve([same(1, 2)], ("join", A, B, ())), ("join", A, B, ((1, 0),)))
        self.check(sieve([same(4, 0)], ("join", A, B, ((1, 1),))), ("join", A, B, ((1, 1), (0, 2))))
        self.check(sieve([same(0, 2)], ("join", A, B, ((1, 1), (0, 1)))), ("join", A, B, ((1, 1), (0, 1), (0, 0))))

    def test_a_lone_same_of_one_side_becomes_none(self):
        self.check(sieve([same(0, 1)], ("join", A, B, ())), ("join", sieve([same(0, 1)], A), B, ()))
        self.check(sieve([same(4, 2)], ("join", A, B, ())), ("join", A, sieve([same(2, 0)], B), ()))
        self.check(sieve([same(3, 3)], ("join", A, B, ())), ("join", A, sieve([same(1, 1)], B), ()))

    def test_a_lone_same_with_a_cell_becomes_none(self):
        self.check(sieve([told(0, 2)], ("join", A, B, ())), ("join", sieve([told(0, 2)], A), B, ()))

    def test_other_clauses_across_stay(self):
        for clause in ((("unlike", 0, "col", 2),), (("before", 4, "col", 1),), (("upto", 1, "col", 3),),
                       (("behind", 1, "col", 2),), (("from", 2, "col", 1),), same(0, 2) + same(1, 3),
                       same(0, 2) + told(0), told(1) + told(2), same(0, 1) + same(2, 3)):
            self.check(sieve([clause], ("join", A, B, ())), sieve([clause], ("join", A, B, ())))

    def test_a_clause_without_places_does_not_stay(self):
        for query in (("join", A, B, ()), ("join", D, A, ()), ("join", D, D, ()), ("join", A, B, ((0, 0),))):
            found = plan(sieve([()], query), WIDTHS)
            self.assertEqual(found[0], "join")
            self.assertIn(sieve([()], query[1]), found)
            for tables in sets_of_tables():
                self.assertEqual(rows_of(found, tables), [])

    def test_a_side_without_columns(self):
        self.check(sieve([told(0), same(0, 1)], ("join", D, A, ())), ("join", D, sieve([told(0), same(0, 1)], A), ()))
        self.check(sieve([told(0), same(0, 1)], ("join", A, D, ())), ("join", sieve([told(0), same(0, 1)], A), D, ()))

    def test_clauses_go_down_joins_within_joins(self):
        query = ("join", ("join", A, C, ()), ("join", C, B, ()), ())
        across = (("before", 0, "col", 6),)
        self.check(sieve([same(1, 2), same(3, 4), same(0, 5), told(2, 9), told(6, 8), across, (("from", 3, "col", 5),)],
                         query),
                   sieve([across], ("join", ("join", A, sieve([told(0, 9)], C), ((1, 0),)), sieve(
                       [(("from", 0, "col", 2),)], ("join", C, sieve([told(2, 8)], B), ((0, 0),))), ((0, 2),))))

    def test_pairs_are_told_by_the_widths_of_steps(self):
        query = ("join", ("pick", (0, 0, 1, 1), A), ("group", (1,), (("count", 0),), A), ())
        self.check(sieve([same(3, 4), same(5, 0), told(5, 2), told(4, 1), told(2, 0)], query),
                   ("join", ("pick", (0, 0, 1, 1), sieve([told(1, 0)], A)),
                    sieve([told(1, 2)], ("group", (1,), (("count", 0),), sieve([told(1, 1)], A))), ((3, 0), (0, 1))))


class OnGroups(ByHand):
    GROUP = ("group", (2, 0), (("count", 1), ("most", 1)), B)

    def test_a_clause_of_the_groups_own_places_goes_through(self):
        self.check(sieve([told(0, 5), same(0, 1) + told(1, 2)], self.GROUP),
                   ("group", (2, 0), (("count", 1), ("most", 1)), sieve([told(2, 5), same(2, 0) + told(0, 2)], B)))

    def test_a_clause_of_its_sums_stays(self):
        for clause in (told(2, 1), told(3, "a", "upto"), (("before", 2, "col", 3),)):
            self.check(sieve([clause], self.GROUP), sieve([clause], self.GROUP))

    def test_a_clause_of_both_stays(self):
        for clause in (same(0, 2), same(3, 1), told(0) + told(2), told(3) + told(1)):
            self.check(sieve([clause], self.GROUP), sieve([clause], self.GROUP))

    def test_each_clause_goes_its_own_way(self):
        self.check(sieve([told(0), told(2), told(1), same(1, 3)], self.GROUP),
                   sieve([told(2), same(1, 3)],
                         ("group", (2, 0), (("count", 1), ("most", 1)), sieve([told(2), told(0)], B))))

    def test_a_place_of_the_group_may_stand_twice(self):
        self.check(sieve([same(0, 1), told(1, 4)], ("group", (1, 1), (), A)),
                   ("group", (1, 1), (), sieve([same(1, 1), told(1, 4)], A)))

    def test_a_clause_without_places_goes_through(self):
        for query in (("group", (), (("count", 0),), A), ("group", (0,), (), A), ("group", (), (), D)):
            self.check(sieve([()], query), (*query[:3], sieve([()], query[3])))

    def test_a_group_without_places_lets_no_other_clause_through(self):
        query = ("group", (), (("sum", 0), ("least", 1)), A)
        self.check(sieve([told(0), same(0, 1)], query), sieve([told(0), same(0, 1)], query))


class DeepQueries(unittest.TestCase):
    def test_queries_of_forty_steps_and_deeper_plans(self):
        for steps in (40, 70):
            query = B
            for at in range(steps - 1):
                query = (
                    sieve([told(at % 3, at, "unlike"), (("upto", 0, "col", 1), ("from", 1, "is", at))], query),
                    ("order", ((at % 3, at % 2 == 0),), query),
                    ("pick", (1, 2, 0), query),
                    ("once", query),
                    ("pick", (0, 1, 3), ("join", query, C, ((0, 0),))),
                    ("group", (0, 1), (("most", 2),), query),
                    ("first", 3, query),
                )[at % 7]
            found = plan(query, WIDTHS)
            again = plan(found, WIDTHS)
            self.assertEqual(promises.other_steps(query, found), [])
            self.assertEqual(promises.sieves_that_stand_too_high(found), [])
            self.assertEqual(promises.other_steps(found, again), [])
            for tables in sets_of_tables():
                rows = rows_of(query, tables)
                self.assertEqual(repr(answer(found, tables)), repr(rows))
                self.assertEqual(repr(answer(again, tables)), repr(rows))

    def test_forty_sieves_become_one(self):
        query = A
        for at in range(39):
            query = sieve([told(at % 2, at, "unlike")], query)
        found = plan(query, WIDTHS)
        self.assertEqual((found[0], found[2]), ("sieve", A))
        self.assertEqual(sorted(found[1]), sorted(told(at % 2, at, "unlike") for at in range(39)))


class PlannedRows(unittest.TestCase):
    def test_they_are_those_of_the_answer(self):
        for tables in sets_of_tables():
            for query in all_queries():
                found = planned(query, WIDTHS, tables)
                if type(found) is not list or repr(found) != repr(answer(query, tables)):
                    self.fail(f"{query} over {tables}: {found}")

    def test_they_stand_in_a_new_list(self):
        tables = {"a": [(1, 2), (3, 4)], "b": [], "c": [], "d": [], "e": []}
        for query in (A, sieve((), A), sieve([told(0, 0, "behind")], A), ("order", (), A), ("first", 9, A)):
            found = planned(query, WIDTHS, tables)
            found.append((0, 0))
            found.reverse()
            self.assertEqual(tables["a"], [(1, 2), (3, 4)])
            self.assertEqual(planned(query, WIDTHS, tables), [(1, 2), (3, 4)])


class NothingIsChanged(unittest.TestCase):
    def test_query_widths_and_tables_are_as_they_were(self):
        for tables in sets_of_tables():
            rows_before = repr(tables)
            widths = dict(WIDTHS)
            for query in all_queries():
                query_before = repr(query)
                plan(query, widths)
                planned(query, widths, tables)
                if repr(query) != query_before or repr(tables) != rows_before or widths != WIDTHS:
                    self.fail(f"{query_before} was changed, or its tables or widths were")

    def test_the_same_query_has_the_same_plan_each_time(self):
        for query in many_queries():
            self.assertEqual(plan(query, WIDTHS), plan(query, dict(WIDTHS)))


if __name__ == "__main__":
    unittest.main()
