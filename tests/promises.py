"""The sentences of point 9, each as a function that tells what of a plan breaks it, for the tests of plans."""

from querylang.plans import plan
from querylang.shapes import width
from tests.reference import queries_within, rows_of


def steps_of(query):
    """All steps of the query, each ahead of those within it, the first query's ahead of the second's."""
    found = [query]
    for part in queries_within(query):
        found.extend(steps_of(part))
    return found


def steps_called(word, query):
    return [step for step in steps_of(query) if step[0] == word]


def bare(query):
    """The query without its sieves, and with no pairs in its joins."""
    word = query[0]
    if word == "sieve":
        return bare(query[2])
    if word == "join":
        return ("join", bare(query[1]), bare(query[2]), ())
    if word == "both":
        return ("both", bare(query[1]), bare(query[2]))
    if word == "table":
        return query
    return (*query[:-1], bare(query[-1]))


def places_told(clause):
    return [place for _, place, kind, told in clause for place in ((place, told) if kind == "col" else (place,))]


def sieves_on(word, query):
    """Each clause of a sieve that stands right on a step of that word, with the step."""
    return [(clause, sieve[2]) for sieve in steps_called("sieve", query) if sieve[2][0] == word for clause in sieve[1]]


def other_rows(query, plan_of_it, sets):
    return [tables for tables in sets if repr(rows_of(query, tables)) != repr(rows_of(plan_of_it, tables))]


def other_steps(query, plan_of_it):
    return [] if bare(query) == bare(plan_of_it) else [bare(plan_of_it)]


def lost_pairs(query, plan_of_it):
    own = [join[3] for join in steps_called("join", query)]
    planned = [join[3] for join in steps_called("join", plan_of_it)]
    if len(own) != len(planned):
        return [planned]
    return [pairs for pairs, more in zip(own, planned) if more[:len(pairs)] != pairs]


def sieves_through_firsts(query, plan_of_it, widths):
    own = [first[2] for first in steps_called("first", query)]
    planned = [first[2] for first in steps_called("first", plan_of_it)]
    if len(own) != len(planned):
        return [planned]
    return [within for part, within in zip(own, planned) if plan(part, widths) != within]


def sieves_without_clauses(plan_of_it):
    return [sieve for sieve in steps_called("sieve", plan_of_it) if len(sieve[1]) == 0]


def sieves_that_stand_too_high(plan_of_it):
    return [sieve for sieve in steps_called("sieve", plan_of_it)
            if sieve[2][0] in ("sieve", "pick", "order", "once", "both")]


def clauses_of_one_side_on_joins(plan_of_it, widths):
    found = []
    for clause, join in sieves_on("join", plan_of_it):
        many = width(join[1], widths)
        below = [place < many for place in places_told(clause)]
        if not any(below) or all(below):
            found.append(clause)
    return found


def lone_sames_on_joins(plan_of_it):
    return [clause for clause, _ in sieves_on("join", plan_of_it)
            if len(clause) == 1 and clause[0][0] == "same" and clause[0][2] == "col"]


def clauses_of_own_places_on_groups(plan_of_it):
    return [clause for clause, group in sieves_on("group", plan_of_it)
            if all(place < len(group[1]) for place in places_told(clause))]


def what_is_no_tuple(value):
    """All lists and other things in what ought to be tuples of tuples, texts and numbers."""
    if type(value) is tuple:
        return [found for part in value for found in what_is_no_tuple(part)]
    return [] if type(value) in (int, str, bool) else [value]
