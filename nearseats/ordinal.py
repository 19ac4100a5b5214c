"""Ordinal sets of the columns of a table."""

from nearseats.errors import InvalidColumn, InvalidRow, NotOrdinal
from nearseats.given import columns_fault
from nearseats.names import is_number


def is_ordinal(table, columns):
    """Whether any value is a list or tuple of columns that are an ordinal set."""
    if columns_fault(table, columns) is not None:
        return False
    worst = worst_columns(table, columns)
    places = [table.places(row) for row in range(table.many_rows)]
    limits = [here[column] for here, column in zip(places, worst)]
    for column in range(table.many_columns):
        if not any([here[column] <= limit for here, limit in zip(places, limits)]):
            return False
    return True


def worst_column(table, columns, row):
    """The worst one of some columns in a row."""
    if not is_number(row, 0, table.many_rows - 1):
        raise InvalidRow(row)
    places = table.places(row)
    return table.ranking(row)[min([places[column] for column in columns])]


def home(table, columns, column):
    """The row in which a column of an ordinal set is the worst one of the set."""
    _check_member(table, columns, column)
    return worst_columns(table, columns).index(column)


def replacement(table, columns, column):
    """The column that makes the set ordinal again in the place of one of its columns, or None."""
    _check_member(table, columns, column)
    return replacing_column(table, columns, column)


def first_ordinal(table, row):
    """The ordinal set with which a walk with this first row begins."""
    if not is_number(row, 0, table.many_rows - 1):
        raise InvalidRow(row)
    many = table.many_rows
    if table.many_columns == many:
        return list(range(many))
    best = [column for column in table.ranking(row) if column >= many][-1]
    return [*[other for other in range(many) if other != row], best]


def worst_columns(table, columns):
    """The worst column in each row; columns is a list of at least one column, if there are rows."""
    return [worst_column(table, columns, row) for row in range(table.many_rows)]


def rest_is_idle(table, columns, column):
    """Whether all columns of a set but one are idle, so that this one has no replacement."""
    return all([other == column or other < table.many_rows for other in columns])


def replacing_column(table, columns, column):
    """The replacement of a column of an ordinal set, or None; nothing is checked."""
    if rest_is_idle(table, columns, column):
        return None
    worst = worst_columns(table, columns)
    left = worst.index(column)
    # Only in the home of the column does the rest have another worst column than the set.
    second = worst_column(table, [other for other in columns if other != column], left)
    row = worst.index(second)
    worst[left] = second
    limits = [(table.places(other), worst[other]) for other in range(table.many_rows) if other != row]
    for found in table.ranking(row)[::-1]:
        if all([places[found] > places[limit] for places, limit in limits]):
            return found
    return None


def _check_member(table, columns, column):
    """Refuses any value as columns that is no ordinal set, and any value that is not in it."""
    if not is_ordinal(table, columns):
        raise NotOrdinal()
    if not is_number(column, 0, None) or column not in columns:
        raise InvalidColumn(column)
