"""Shapes: how many columns a query's rows have, and which queries are refused."""

from querylang.clauses import places_of
from querylang.errors import NoColumn, NoCount, NoTable, UnlikeSides
from querylang.steps import queries_of


def width(query, widths):
    """How many columns the query's rows have; a wrong query is refused."""
    # The queries within come ahead of the step, so that their refusals come first.
    within = []
    for part in queries_of(query):
        within.append(width(part, widths))
    return _width_of_step(query, within, widths)


def _width_of_step(query, within, widths):
    word = query[0]
    if word == "table":
        return _width_of_table(query[1], widths)
    if word == "join":
        return _width_of_join(query[3], within)
    if word == "both":
        return _width_of_both(within)
    many = within[0]
    _check_places(word, _places_told(query), many)
    if word == "pick":
        return len(query[1])
    if word == "group":
        return len(query[1]) + len(query[2])
    if word == "first":
        _check_count(query[1])
    return many


def _width_of_table(name, widths):
    if name not in widths:
        raise NoTable(f"there is no table {name!r}")
    return widths[name]


def _width_of_join(pairs, within):
    first, second = within
    _check_places("join", [place for place, _ in pairs], first)
    _check_places("join", [other for _, other in pairs], second)
    return first + second


def _width_of_both(within):
    first, second = within
    if first != second:
        raise UnlikeSides(f"a both has sides of {first} and of {second} columns")
    return first


def _places_told(query):
    """A list of the places that a step over one query tells of that query's rows."""
    word = query[0]
    if word == "pick":
        return list(query[1])
    if word == "sieve":
        return [place for clause in query[1] for place in places_of(clause)]
    if word == "group":
        return list(query[1]) + [place for _, place in query[2]]
    if word == "order":
        return [place for place, _ in query[1]]
    return []


def _check_places(word, places, many):
    for place in places:
        if place < 0 or place >= many:
            raise NoColumn(f"a place in a {word} is no column of its rows")


def _check_count(count):
    if count < 0:
        raise NoCount("the count of a first is below nought")
