"""Judges a statement: which code it gets, and what it makes of a state.

A state is a dict from the names of tables to tables; one that is made is never changed. Marks are a list of
tuples (name, the state that was marked), the latest last, or None outside a transaction. The codes that hang on
the text or on the disk, "language", "dead" and the last "room", are not told here.
"""

from ledgerdb.errors import Constraint
from ledgerdb.reading import BEGIN, COLUMN, COMMIT, CREATE, DELETE, DROP, INSERT, ROLLBACK, ROLLBACK_TO, SAVEPOINT
from ledgerdb.reading import SELECT, UPDATE
from ledgerdb.tables import delete_rows, insert_row, make_table, select_rows, update_rows

MOST_TABLES = 4
MOST_COLUMNS = 6
MOST_EXPRESSIONS = 8
MOST_ROWS = 40
MOST_MARKS = 4


class Verdict:
    # The state is the one behind the statement, which is the one ahead of it where it is refused.
    def __init__(self, code, place, answer, state):
        self.code = code
        self.place = place
        self.answer = answer
        self.state = state


def judge(statement, state, marks):
    refusal = find_refusal(statement, state, marks)
    if refusal is not None:
        return Verdict(refusal[0], refusal[1], 0, state)
    try:
        behind = carry_out(statement, state)
    except Constraint:
        return Verdict("constraint", 0, 0, state)
    return Verdict("ok", 0, behind[0], behind[1])


def find_refusal(statement, state, marks):
    if not fits_transaction(statement.kind, marks is not None):
        return ("state", 0)
    wrong_names = find_wrong_names(statement, state, marks)
    if len(wrong_names) > 0:
        least = min(wrong_names)
        return (least[1], least[0])
    return ("room", 0) if lacks_room(statement, state, marks) else None


def fits_transaction(kind, within):
    if kind == BEGIN:
        return not within
    return within or kind not in (COMMIT, ROLLBACK, ROLLBACK_TO, SAVEPOINT)


def find_wrong_names(statement, state, marks):
    # Tuples (place, code): the place comes first, for the least one counts whatever its code is.
    kind = statement.kind
    if kind == CREATE:
        return find_made_twice(statement, state)
    if kind == ROLLBACK_TO:
        return tell_missing([statement.target], [name for name, marked in marks])
    if kind == SAVEPOINT or statement.target is None:
        return []
    missing_table = tell_missing([statement.target], state)
    if len(missing_table) > 0:
        return missing_table
    # The expressions of an insert are reckoned on no row, so no column is there for them.
    columns = [] if kind == INSERT else [column.name for column in state[statement.target[0]].columns]
    changed = [(name, place) for name, place, expression in statement.changes]
    return tell_missing(changed + list_columns(statement), columns) + tell_repeated(changed)


def find_made_twice(statement, state):
    name = statement.target[0]
    there = [(statement.target[1], "exists")] if name in state else []
    return there + tell_repeated([(column[0], column[1]) for column in statement.columns])


def tell_missing(named, known):
    return [(place, "name") for name, place in named if name not in known]


def tell_repeated(named):
    seen = {}
    repeated = []
    for name, place in named:
        if name in seen:
            repeated.append((place, "exists"))
        seen[name] = True
    return repeated


def list_columns(statement):
    # All columns that are named but for those that are changed.
    named = [] if statement.order is None else [statement.order]
    for expression in list_expressions(statement):
        named.extend([(value, place) for kind, value, place in expression if kind == COLUMN])
    return named


def list_expressions(statement):
    expressions = [expression for name, place, expression in statement.changes]
    if statement.expressions is not None:
        expressions.extend(statement.expressions)
    if statement.where is not None:
        expressions.append(statement.where)
    return expressions


def lacks_room(statement, state, marks):
    kind = statement.kind
    if kind == CREATE:
        return len(state) >= MOST_TABLES or len(statement.columns) > MOST_COLUMNS
    if kind == SAVEPOINT:
        return len(marks) >= MOST_MARKS
    if kind == INSERT and len(state[statement.target[0]].rows) >= MOST_ROWS:
        return True
    if statement.expressions is not None and len(statement.expressions) > MOST_EXPRESSIONS:
        return True
    return len(statement.changes) > MOST_EXPRESSIONS


def find_mark(marks, name):
    # Where the latest mark of that name stands, which is known to be there.
    return max([k for k, mark in enumerate(marks) if mark[0] == name])


def carry_out(statement, state):
    # A tuple (the answer, the state behind).
    kind = statement.kind
    if kind in (INSERT, UPDATE, DELETE):
        return change_table(statement, state)
    if kind == SELECT:
        return (select_rows(state[statement.target[0]], statement), state)
    if kind == CREATE:
        return (0, with_table(state, statement.target[0], make_table(statement)))
    if kind == DROP:
        return (0, without_table(state, statement.target[0]))
    return (0, state)


def change_table(statement, state):
    name = statement.target[0]
    if statement.kind == INSERT:
        changed = insert_row(state[name], statement)
    elif statement.kind == UPDATE:
        changed = update_rows(state[name], statement)
    else:
        changed = delete_rows(state[name], statement)
    return (changed[1], with_table(state, name, changed[0]))


def with_table(state, name, table):
    behind = dict(state)
    behind[name] = table
    return behind


def without_table(state, name):
    behind = dict(state)
    behind.pop(name)
    return behind
