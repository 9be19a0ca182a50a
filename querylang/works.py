"""Works: how many pairs of rows the joins of a query look at."""

from querylang.plain import rows_of_step
from querylang.steps import queries_of


def work(query, tables):
    """The number of the first query's rows times that of the second's, for each join, all added up."""
    _, looked = _looked_at(query, tables)
    return looked


def _looked_at(query, tables):
    """A list of the rows of each query within the step, and the work of the whole query."""
    within = []
    looked = 0
    for part in queries_of(query):
        rows_within, looked_within = _looked_at(part, tables)
        # The rows of a query are made where a step needs them, so never those of the uppermost one.
        within.append(rows_of_step(part, rows_within, tables))
        looked += looked_within
    if query[0] == "join":
        looked += len(within[0]) * len(within[1])
    return within, looked
