"""Queries and tables for the tests: always the same ones for one seed."""

import random
from functools import lru_cache

CELLS = (-1, 0, 1, 2, 10 ** 60, "", "1", "a", "b")
WORDS = ("same", "same", "unlike", "before", "upto", "behind", "from")
SUMS = ("count", "sum", "least", "most")
WIDTHS = {"a": 2, "b": 3, "c": 1, "d": 0, "e": 2}
# More rows than this no query that is made has, so that the slow reference is done soon.
MOST_ROWS = 150
TABLE_ROWS = 5


class Maker:
    """Makes queries that are right over WIDTHS, each with its width and with the most rows it can have."""

    def __init__(self, seed):
        self.chance = random.Random(seed)

    def query(self, steps):
        """A query of about so many steps one within another."""
        return self.made(steps)[0]

    def made(self, steps):
        if steps <= 1:
            return self.table()
        query, width, most = self.made(steps - 1)
        words = ["sieve"] * 5 + ["pick", "order", "once", "group", "both", "join", "join", "join", "join"]
        if self.chance.randrange(3) == 0:
            words.append("first")
        return getattr(self, self.chance.choice(words))(query, width, most)

    def table(self):
        name = self.chance.choice(sorted(WIDTHS))
        return ("table", name), WIDTHS[name], TABLE_ROWS

    def cell(self):
        return self.chance.choice(CELLS)

    def places(self, width, most):
        if width == 0:
            return ()
        return tuple(self.chance.randrange(width) for _ in range(self.chance.randrange(most + 1)))

    def test(self, width):
        word = self.chance.choice(WORDS)
        if self.chance.randrange(2):
            return (word, self.chance.randrange(width), "is", self.cell())
        return (word, self.chance.randrange(width), "col", self.chance.randrange(width))

    def clause(self, width):
        if width == 0 or self.chance.randrange(25) == 0:
            return ()
        return tuple(self.test(width) for _ in range(self.chance.choice((1, 1, 1, 2, 3))))

    def sieve(self, query, width, most):
        # Clauses that no row can pass would leave little to compare, where no place can be told.
        many = 0 if width == 0 and self.chance.randrange(8) else self.chance.choice((0, 1, 1, 2, 3))
        return ("sieve", tuple(self.clause(width) for _ in range(many)), query), width, most

    def pick(self, query, width, most):
        places = self.places(width, 4)
        return ("pick", places, query), len(places), most

    def join(self, query, width, most):
        other, other_width, other_most = self.made(self.chance.choice((1, 1, 1, 2, 3)))
        if most * other_most > MOST_ROWS:
            return self.fewer(query, width, most)
        pairs = ()
        if width and other_width:
            pairs = tuple((self.chance.randrange(width), self.chance.randrange(other_width))
                          for _ in range(self.chance.choice((0, 0, 0, 1, 2))))
        if self.chance.randrange(2):
            swapped = tuple((there, here) for here, there in pairs)
            return ("join", other, query, swapped), width + other_width, most * other_most
        return ("join", query, other, pairs), width + other_width, most * other_most

    def group(self, query, width, most):
        places = self.places(width, 3)
        sums = tuple((self.chance.choice(SUMS), place) for place in self.places(width, 2))
        return ("group", places, sums, query), len(places) + len(sums), most

    def order(self, query, width, most):
        keys = tuple((place, self.chance.randrange(2) == 1) for place in self.places(width, 3))
        return ("order", keys, query), width, most

    def both(self, query, width, most):
        if 2 * most > MOST_ROWS:
            return self.fewer(query, width, most)
        other, other_width, other_most = self.made(self.chance.choice((1, 2)))
        if other_most > most or (other_width == 0 and width > 0):
            other, other_width, other_most = query, width, most
        if other_width != width:
            other = ("pick", tuple(at % other_width for at in range(width)), other)
        sides = (query, other) if self.chance.randrange(2) else (other, query)
        return ("both", *sides), width, most + other_most

    def once(self, query, width, most):
        return ("once", query), width, most

    def first(self, query, width, most):
        count = self.chance.choice((0, 1, 3, 3, 4, 10 ** 39))
        return ("first", count, query), width, min(most, count)

    def fewer(self, query, width, most):
        if self.chance.randrange(2):
            return ("first", 4, query), width, min(4, most)
        return ("group", (), tuple(("most", place) for place in range(width)[:3]), query), min(3, width), 1

    def tables(self, most_rows):
        """Tables of these widths with at most so many rows each, some of them alike."""
        few = [self.cell() for _ in range(3)]
        tables = {}
        for name, width in WIDTHS.items():
            many = self.chance.randrange(most_rows + 1)
            cells = few if self.chance.randrange(2) else CELLS
            tables[name] = [tuple(self.chance.choice(cells) for _ in range(width)) for _ in range(many)]
        return tables


@lru_cache
def many_queries():
    """Queries of two to nine steps, then some of forty."""
    maker = Maker(11)
    queries = [maker.query(2 + at % 8) for at in range(1200)]
    return queries + [maker.query(40) for _ in range(60)]


@lru_cache
def sets_of_tables():
    """Tables of WIDTHS: without rows, with one row each, with all rows alike, and others."""
    maker = Maker(12)
    empty = {name: [] for name in WIDTHS}
    lone = {name: [(1,) * width] for name, width in WIDTHS.items()}
    alike = {name: [("a",) * width] * 4 for name, width in WIDTHS.items()}
    half = {name: rows if name in "ac" else [] for name, rows in maker.tables(5).items()}
    return [empty, lone, alike, half] + [maker.tables(TABLE_ROWS) for _ in range(6)]
