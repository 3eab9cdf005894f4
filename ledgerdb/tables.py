"""Tables: their columns and rows, and what statements make of them.

A statement is one of ledgerdb.reading, whose names have been found to be there. insert_row, update_rows and
delete_rows tell a tuple (the new table, how many rows were inserted, updated or deleted), select_rows the list
of the answer's rows. What a column does not take is told by Constraint.
"""

from ledgerdb.errors import Constraint
from ledgerdb.reading import INT_COLUMN
from ledgerdb.values import order_key, reckon, truth_of

MOST_SIGNS = 20


class Column:
    def __init__(self, name, kind, not_null, unique):
        self.name = name
        self.kind = kind
        self.not_null = not_null
        self.unique = unique


class Table:
    # A table is never changed once it is made: what changes it gives a new one, so that whoever holds the
    # old one can go back to it, and what is refused has changed nothing.
    def __init__(self, columns, rows):
        self.columns = tuple(columns)
        self.rows = tuple(rows)


def make_table(statement):
    columns = [Column(name, kind, not_null, unique) for name, place, kind, not_null, unique in statement.columns]
    return Table(columns, [])


def insert_row(table, statement):
    row = tuple([reckon(expression, {}) for expression in statement.expressions])
    check_row(table, row)
    return (with_rows(table, list(table.rows) + [row]), 1)


def update_rows(table, statement):
    taken = judge_rows(table, statement)
    rows = [change_row(table, row, statement.changes) if take else row for row, take in zip(table.rows, taken)]
    return (with_rows(table, rows), taken.count(True))


def delete_rows(table, statement):
    taken = judge_rows(table, statement)
    rows = [row for row, take in zip(table.rows, taken) if not take]
    return (with_rows(table, rows), taken.count(True))


def select_rows(table, statement):
    taken = judge_rows(table, statement)
    rows = [name_values(table, row) for row, take in zip(table.rows, taken) if take]
    if statement.order is not None:
        rows = order_rows(rows, statement.order[0], statement.desc)
    if statement.limit is not None:
        rows = rows[:statement.limit]
    return [make_result(row, statement.expressions) for row in rows]


def name_values(table, row):
    return dict(zip([column.name for column in table.columns], row))


def judge_rows(table, statement):
    if statement.where is None:
        return [True for row in table.rows]
    return [truth_of(reckon(statement.where, name_values(table, row))) is True for row in table.rows]


def order_rows(rows, name, desc):
    # Python leaves what is alike as it was with `reverse` too.
    if desc:
        return sorted(rows, key=lambda row: order_key(row[name]), reverse=True)
    return sorted(rows, key=lambda row: order_key(row[name]))


def make_result(row, expressions):
    if expressions is None:
        return tuple(row.values())
    return tuple([reckon(expression, row) for expression in expressions])


def change_row(table, row, changes):
    before = name_values(table, row)
    behind = dict(before)
    for name, place, expression in changes:
        behind[name] = reckon(expression, before)
    changed = tuple(behind.values())
    check_row(table, changed)
    return changed


def with_rows(table, rows):
    # Only what can be judged once the whole statement is done: each row was checked when it was made.
    for place, column in enumerate(table.columns):
        if column.unique:
            check_unique(column, [row[place] for row in rows])
    return Table(table.columns, rows)


def check_row(table, row):
    if len(row) != len(table.columns):
        raise Constraint("the row has not one value for each column")
    for column, value in zip(table.columns, row):
        if not column_takes(column, value):
            name = column.name
            raise Constraint(f"the column {name} does not take the value")


def column_takes(column, value):
    if value is None:
        return not column.not_null
    if column.kind == INT_COLUMN:
        return isinstance(value, int)
    return isinstance(value, str) and len(value) <= MOST_SIGNS


def check_unique(column, given):
    seen = {}
    for value in given:
        if value in seen:
            name = column.name
            raise Constraint(f"the column {name} has a value twice")
        if value is not None:
            seen[value] = True
