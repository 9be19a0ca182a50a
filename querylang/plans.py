"""Plans: queries of the same rows whose sieves stand as near to the tables as they can."""

from querylang.clauses import places_of, turned
from querylang.plain import answer
from querylang.shapes import width
from querylang.steps import queries_of, with_queries


def plan(query, widths):
    """The plan of the query; refuses as `width` does."""
    # Called for its refusals alone: all that follows takes the query to be right.
    width(query, widths)
    return _sunk((), query, widths)


def planned(query, widths, tables):
    """A new list of the rows of the query's plan; refuses as `width` does."""
    return answer(plan(query, widths), tables)


def _sunk(clauses, query, widths):
    """The plan of a sieve of these clauses that stands right on the query."""
    if query[0] == "sieve":
        return _sunk(query[1] + clauses, query[2], widths)
    staying, sinking, step = _parted(clauses, query, widths)
    within = []
    for going, part in zip(sinking, queries_of(query)):
        within.append(_sunk(going, part, widths))
    return _sieve_on(staying, with_queries(step, within))


def _sieve_on(clauses, query):
    if clauses == ():
        return query
    return ("sieve", clauses, query)


def _parted(clauses, query, widths):
    """The clauses that stay on the step, a tuple of those that go to each query within, and the planned step."""
    word = query[0]
    if word == "table":
        return clauses, (), query
    if word == "first":
        # Fewer rows within would let others come among the first ones.
        return clauses, ((),), query
    if word == "pick":
        return (), (_all_turned(clauses, query[1]),), query
    if word == "join":
        return _parted_at_join(clauses, query, widths)
    if word == "group":
        return _parted_at_group(clauses, query)
    if word == "both":
        return (), (clauses, clauses), query
    # An order and a once have the rows of the query within, with all their places.
    return (), (clauses,), query


def _parted_at_join(clauses, query, widths):
    word, first, second, pairs = query
    many = width(first, widths)
    # A clause without places holds for no row of either side, so it goes to both.
    firsts = tuple([clause for clause in clauses if _all_below(clause, many)])
    seconds = tuple([_moved_down(clause, many) for clause in clauses if _none_below(clause, many)])
    across = [clause for clause in clauses if not _all_below(clause, many) and not _none_below(clause, many)]
    more = tuple([_pair_of(clause, many) for clause in across if _is_lone_same(clause)])
    staying = tuple([clause for clause in across if not _is_lone_same(clause)])
    return staying, (firsts, seconds), (word, first, second, pairs + more)


def _parted_at_group(clauses, query):
    places = query[1]
    many = len(places)
    # The rows of a group are alike at its places, so a clause of these alone holds for all of them or none.
    sinking = tuple([clause for clause in clauses if _all_below(clause, many)])
    staying = tuple([clause for clause in clauses if not _all_below(clause, many)])
    return staying, (_all_turned(sinking, places),), query


def _all_turned(clauses, places):
    return tuple([turned(clause, places) for clause in clauses])


def _all_below(clause, many):
    return all([place < many for place in places_of(clause)])


def _none_below(clause, many):
    return all([place >= many for place in places_of(clause)])


def _moved_down(clause, many):
    # Only the clause's own places are asked for; a tuple would have to be as long as the rows are wide.
    return turned(clause, {place: place - many for place in places_of(clause)})


def _is_lone_same(clause):
    """True where the clause, one with places on both sides of a join, can be a pair of that join."""
    return len(clause) == 1 and clause[0][0] == "same"


def _pair_of(clause, many):
    low, high = places_of(clause)
    return (low, high - many)
