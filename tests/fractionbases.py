"""The table of a book as columns of fractions, and what the document says of them, worked out in the plainest way."""

from fractions import Fraction
from itertools import combinations, permutations


def column_entries(table, column):
    return [table.entry(row, column) for row in range(table.many_rows)]


def leibniz(rows):
    """The determinant as the sum over all permutations."""
    total = 0
    for told in permutations(range(len(rows))):
        sign = 1
        for one, other in combinations(told, 2):
            sign = -sign if one > other else sign
        for row, at in zip(rows, told):
            sign *= row[at]
        total += sign
    return total


def solved(columns, sides):
    """A row of fractions for each column, so that the columns multiplied by them give the sides; None if dependent."""
    many = len(columns)
    rows = [[Fraction(item) for item in [*[column[row] for column in columns], *sides[row]]] for row in range(many)]
    for at in range(many):
        found = [row for row in range(at, many) if rows[row][at] != 0]
        if not found:
            return None
        rows[at], rows[found[0]] = rows[found[0]], rows[at]
        rows[at] = [item / rows[at][at] for item in rows[at]]
        for row in range(many):
            if row != at:
                rows[row] = [item - rows[row][at] * other for item, other in zip(rows[row], rows[at])]
    return [row[many:] for row in rows]


def solution(table, columns):
    """A dict from the columns to their tuples of fractions; None if they are dependent."""
    found = solved([column_entries(table, column) for column in columns],
                   [table.bound(row) for row in range(table.many_rows)])
    return None if found is None else {column: tuple(row) for column, row in zip(columns, found)}


def coordinates(table, columns, column):
    """The fractions by which the columns give one column."""
    return [row[0] for row in solved([column_entries(table, other) for other in columns],
                                     [[item] for item in column_entries(table, column)])]


def is_positive(value):
    return tuple(value) > (0,) * len(value)


def is_feasible(table, columns):
    found = solution(table, columns)
    return found is not None and all(is_positive(value) for value in found.values())


def is_ordinal(table, columns):
    """By the words of [19]."""
    worst = [min(columns, key=table.order(row).index) for row in range(table.many_rows)]
    return all(any(column == worst[row] or table.is_better(row, worst[row], column) for row in range(table.many_rows))
               for column in range(table.many_columns))


def column_sets(table):
    return [list(columns) for columns in combinations(range(table.many_columns), table.many_rows)]
