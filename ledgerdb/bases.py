"""Databases: made ready and opened on a disk, asked by statements, closed."""

from ledgerdb.errors import Dead, NoRoom, WrongWord
from ledgerdb.judging import find_mark, judge
from ledgerdb.reading import BEGIN, COMMIT, ROLLBACK, ROLLBACK_TO, SAVEPOINT, SELECT, read_statement
from ledgerdb.stores import find_store, keep_state, make_ready

DEAD_REPLY = ("dead", 0, 0)


class Base:
    def __init__(self, store):
        self.store = store
        # The state that statements see: within a transaction it runs ahead of the one that is kept.
        self.state = store.kept
        # A list of tuples (name, state) within a transaction, None outside.
        self.marks = None
        self.dead = False


def format_disk(disk):
    make_ready(disk)


def open_base(disk):
    return Base(find_store(disk))


def run(base, text):
    if base.dead:
        return DEAD_REPLY
    try:
        statement = read_statement(text)
    except WrongWord as wrong:
        return ("language", wrong.place, 0)
    verdict = judge(statement, base.state, base.marks)
    if verdict.code != "ok":
        return (verdict.code, verdict.place, 0)
    try:
        settle(base, statement, verdict.state)
    except NoRoom:
        return ("room", 0, 0)
    except Dead:
        base.dead = True
        return DEAD_REPLY
    return ("ok", 0, verdict.answer)


def close(base):
    # What a transaction came to was never written, so that there is nothing to undo on the disk.
    base.dead = True


def settle(base, statement, behind):
    kind = statement.kind
    if kind == BEGIN:
        base.marks = []
    elif kind == COMMIT:
        keep_state(base.store, base.state)
        base.marks = None
    elif kind == ROLLBACK:
        base.state = base.store.kept
        base.marks = None
    elif kind == SAVEPOINT:
        base.marks.append((statement.target[0], base.state))
    elif kind == ROLLBACK_TO:
        go_back(base, statement.target[0])
    elif kind != SELECT:
        change(base, behind)


def go_back(base, name):
    place = find_mark(base.marks, name)
    base.state = base.marks[place][1]
    base.marks = base.marks[:place + 1]


def change(base, behind):
    if base.marks is None:
        keep_state(base.store, behind)
    base.state = behind
