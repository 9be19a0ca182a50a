"""Plain answers: the rows of a query, step by step as it stands."""

from querylang.clauses import holds
from querylang.errors import NoTable
from querylang.steps import queries_of


def answer(query, tables):
    """A new list of the query's rows."""
    within = []
    for part in queries_of(query):
        within.append(answer(part, tables))
    return rows_of_step(query, within, tables)


def rows_of_step(query, within, tables):
    """A list of the step's rows, given a list of the rows of each query within it."""
    word = query[0]
    if word == "table":
        return _rows_of_table(query[1], tables)
    if word == "join":
        return _joined(within[0], within[1], query[3])
    if word == "both":
        return within[0] + within[1]
    rows = within[0]
    if word == "sieve":
        return _sieved(rows, query[1])
    if word == "pick":
        return [_cells_at(row, query[1]) for row in rows]
    if word == "group":
        return _grouped(rows, query[1], query[2])
    if word == "order":
        return _ordered(rows, query[1])
    if word == "once":
        return _each_once(rows)
    # Nine words there are, so what is left is "first".
    return rows[:query[1]]


def _rows_of_table(name, tables):
    if name not in tables:
        raise NoTable(f"there is no table {name!r}")
    return list(tables[name])


def _sieved(rows, clauses):
    return [row for row in rows if all([holds(clause, row) for clause in clauses])]


def _cells_at(row, places):
    return tuple([row[place] for place in places])


def _joined(first, second, pairs):
    own = tuple([place for place, _ in pairs])
    others = tuple([other for _, other in pairs])
    # Python takes two tuples of cells for the same key just where all their cells are alike.
    behind = {}
    for row in second:
        behind.setdefault(_cells_at(row, others), []).append(row)
    return [row + other for row in first for other in behind.get(_cells_at(row, own), [])]


def _grouped(rows, places, sums):
    groups = {}
    for row in rows:
        groups.setdefault(_cells_at(row, places), []).append(row)
    return [key + _sums_of(members, sums) for key, members in groups.items()]


def _sums_of(rows, sums):
    return tuple([_sum_of(word, [row[place] for row in rows]) for word, place in sums])


def _sum_of(word, cells):
    if word == "count":
        return len(cells)
    if word == "sum":
        return sum([cell for cell in cells if not isinstance(cell, str)])
    if word == "least":
        return min(cells, key=_standing)
    # Four words there are, so what is left is "most".
    return max(cells, key=_standing)


def _standing(cell):
    """A tuple by which Python orders cells as point 2 does: each number before each text."""
    return (isinstance(cell, str), cell)


def _ordered(rows, keys):
    # Each turn keeps the order of rows that it does not part, so the first key has the last turn.
    ordered = rows
    for place, falling in reversed(keys):
        ordered = _ordered_at(ordered, place, falling)
    return ordered


def _ordered_at(rows, place, falling):
    marked = [(_standing(row[place]), row) for row in rows]
    if falling:
        # Rows of one mark keep their order here, too.
        marked = sorted(marked, key=lambda pair: pair[0], reverse=True)
    else:
        marked = sorted(marked, key=lambda pair: pair[0])
    return [row for _, row in marked]


def _each_once(rows):
    # A dict keeps the order in which its keys came first.
    return list({row: True for row in rows})
