"""The errors with which a query is refused."""


class QueryError(ValueError):
    """Any refusal of a query."""


class NoStep(QueryError):
    """A tuple whose first word is no step of a query."""


class NoTable(QueryError):
    """The name of a table that is not there."""


class NoCount(QueryError):
    """A count below nought."""


class NoColumn(QueryError):
    """A place that is no column of the rows that it is told of."""


class UnlikeSides(QueryError):
    """A both whose two queries have unlike widths."""
