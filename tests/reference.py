"""The rows and the work of a query, told once more in the slowest and plainest way, for the tests to compare with."""

WORDS = {
    "same": lambda stand: stand == 0,
    "unlike": lambda stand: stand != 0,
    "before": lambda stand: stand < 0,
    "upto": lambda stand: stand <= 0,
    "behind": lambda stand: stand > 0,
    "from": lambda stand: stand >= 0,
}


def stand(one, other):
    """Below nought where the first cell stands before the second, nought where they are alike, else above it."""
    if type(one) is not type(other):
        return -1 if type(one) is int else 1
    return (one > other) - (one < other)


def rows_alike(one, other):
    return len(one) == len(other) and all(stand(a, b) == 0 for a, b in zip(one, other))


def clause_holds(clause, row):
    for word, place, kind, told in clause:
        if WORDS[word](stand(row[place], row[told] if kind == "col" else told)):
            return True
    return False


def rows_of(query, tables):
    word = query[0]
    if word == "table":
        return list(tables[query[1]])
    if word == "join":
        return joined(rows_of(query[1], tables), rows_of(query[2], tables), query[3])
    if word == "both":
        return rows_of(query[1], tables) + rows_of(query[2], tables)
    rows = rows_of(query[-1], tables)
    if word == "sieve":
        return [row for row in rows if all(clause_holds(clause, row) for clause in query[1])]
    if word == "pick":
        return [tuple(row[place] for place in query[1]) for row in rows]
    if word == "group":
        return grouped(rows, query[1], query[2])
    if word == "order":
        return ordered(rows, query[1])
    if word == "once":
        return [row for at, row in enumerate(rows) if not any(rows_alike(row, other) for other in rows[:at])]
    assert word == "first"
    return [row for at, row in enumerate(rows) if at < query[1]]


def joined(first, second, pairs):
    return [(*one, *other) for one in first for other in second
            if all(stand(one[place], other[told]) == 0 for place, told in pairs)]


def grouped(rows, places, sums):
    groups = []
    for row in rows:
        for group in groups:
            if all(stand(row[place], group[0][place]) == 0 for place in places):
                group.append(row)
                break
        else:
            groups.append([row])
    return [tuple(group[0][place] for place in places) + tuple(summed(word, [row[place] for row in group])
            for word, place in sums) for group in groups]


def summed(word, cells):
    if word == "count":
        return len(cells)
    if word == "sum":
        return sum(cell for cell in cells if type(cell) is int)
    if word == "least":
        return next(cell for cell in cells if not any(stand(other, cell) < 0 for other in cells))
    assert word == "most"
    return next(cell for cell in cells if not any(stand(cell, other) < 0 for other in cells))


def goes_first(one, other, keys):
    for place, falling in keys:
        told = stand(one[place], other[place])
        if told != 0:
            return told > 0 if falling else told < 0
    return False


def ordered(rows, keys):
    found = []
    for row in rows:
        at = len(found)
        while at > 0 and goes_first(row, found[at - 1], keys):
            at -= 1
        found.insert(at, row)
    return found


def work_of(query, tables):
    looked = sum(work_of(part, tables) for part in queries_within(query))
    if query[0] == "join":
        looked += len(rows_of(query[1], tables)) * len(rows_of(query[2], tables))
    return looked


def queries_within(query):
    if query[0] == "table":
        return ()
    if query[0] in ("join", "both"):
        return query[1:3]
    return query[-1:]
