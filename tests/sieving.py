"""Queries whose sieves stand above each of the nine steps, and above each step of each step."""

from functools import lru_cache

from querylang.shapes import width
from tests.making import WIDTHS

B = ("table", "b")

# Each of the nine over a query of three columns or more, with three columns or more itself.
STEPS = (
    lambda query: ("table", "b"),
    lambda query: ("sieve", ((("unlike", 1, "is", 0),), (("upto", 0, "col", 2), ("same", 1, "is", "a"))), query),
    lambda query: ("pick", (2, 0, 1, 0), query),
    lambda query: ("join", query, ("table", "a"), ()),
    lambda query: ("join", ("table", "c"), query, ((0, 1),)),
    lambda query: ("group", (1, 0), (("most", 2), ("count", 0)), query),
    lambda query: ("group", (), (("least", 2), ("sum", 1), ("count", 0)), query),
    lambda query: ("order", ((2, True), (0, False)), query),
    lambda query: ("both", ("pick", (0, 1, 2), query), B),
    lambda query: ("both", B, ("pick", (2, 2, 1), query)),
    lambda query: ("once", query),
    lambda query: ("first", 3, query),
)


def clauses_over(many):
    """Sieves' clauses over rows of so many columns: of no test, of one and of more, over near and far columns."""
    last = many - 1
    middle = many // 2
    return (
        (),
        ((),),
        ((("same", 0, "is", 1),),),
        ((("behind", last, "is", 0),),),
        ((("same", 0, "col", last),),),
        ((("same", last, "col", middle),), (("same", 1, "col", 0),)),
        ((("before", last, "col", 0),), (("unlike", middle, "is", "b"),)),
        ((("same", 0, "col", last), ("same", 1, "is", 2)), (("from", 1, "col", 0), ("upto", 0, "is", "")), ()),
        ((("same", 0, "is", 1), ("same", last, "is", 1)), (("same", middle, "col", middle),)),
        tuple((("unlike", place, "is", place),) for place in range(many)),
    )


@lru_cache
def sieved_queries():
    queries = []
    for upper in STEPS:
        for lower in STEPS:
            query = upper(lower(B))
            for clauses in clauses_over(width(query, WIDTHS)):
                queries.append(("sieve", clauses, query))
    return queries
