"""Steps: the nine words with which a query begins, and the queries that stand within a step."""

from querylang.errors import NoStep

# For each word, where in the step's tuple the queries within it stand.
WITHIN = {
    "table": (),
    "sieve": (2,),
    "pick": (2,),
    "join": (1, 2),
    "group": (3,),
    "order": (2,),
    "both": (1, 2),
    "once": (1,),
    "first": (2,),
}


def queries_of(query):
    """A tuple of the queries within the step, in their order; NoStep where its word is none of the nine."""
    if not _is_step(query):
        raise NoStep("the first word of a query is none of the nine steps")
    return tuple([query[at] for at in WITHIN[query[0]]])


def with_queries(query, within):
    """The step with the queries of the list `within` in place of its own."""
    parts = list(query)
    for at, part in zip(WITHIN[query[0]], within):
        parts[at] = part
    return tuple(parts)


def _is_step(query):
    # That it is a text is asked first: a dict cannot be asked for each kind of thing.
    return len(query) > 0 and isinstance(query[0], str) and query[0] in WITHIN
