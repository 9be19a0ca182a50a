"""Clauses: tuples of tests, of which one at least has to hold for a row."""

from querylang.cells import alike, before


def holds(clause, row):
    """True where one test of the clause at least holds for the row, else False."""
    return any(_test_holds(test, row) for test in clause)


def places_of(clause):
    """A list of the places that the clause's tests tell, rising, each once."""
    return sorted({place for test in clause for place in _places_of_test(test)})


def turned(clause, places):
    """The clause with `places[k]` for each place k and all else in its place."""
    return tuple(_turned_test(test, places) for test in clause)


def _test_holds(test, row):
    word, place, kind, told = test
    other = row[told] if kind == "col" else told
    return _word_holds(word, row[place], other)


def _word_holds(word, one, other):
    if word == "same":
        return alike(one, other)
    if word == "unlike":
        return not alike(one, other)
    if word == "before":
        return before(one, other)
    if word == "upto":
        return before(one, other) or alike(one, other)
    if word == "behind":
        return before(other, one)
    # Six words there are, so what is left is "from".
    return before(other, one) or alike(one, other)


def _places_of_test(test):
    _, place, kind, told = test
    if kind == "col":
        return (place, told)
    return (place,)


def _turned_test(test, places):
    word, place, kind, told = test
    if kind == "col":
        return (word, places[place], kind, places[told])
    # The cell of an "is" test stays, even where it is a number that is also a place.
    return (word, places[place], kind, told)
