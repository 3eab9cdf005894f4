"""Reads a text as a statement, or finds its wrong word.

A place is the number of a word, from 1 on; a name is told as a tuple (name, place).

An expression is a list of steps, each operand ahead of its operator, so that it can be reckoned from the
first step to the last with no call within a call, however many operators stand in a row. A step is a tuple
(kind, value, place):
- VALUE: a value as it stands; COLUMN: a column's name, which alone has a place other than 0;
- ONE: an operator of one operand, "not", "minus", "is null" or "is not null";
- TWO: an operator of two operands, as it is written.
"""

from ledgerdb.errors import WrongWord
from ledgerdb.words import KEPT, NAME, NUMBER, SIGN, TEXT, split_words

CREATE = "create table"
DROP = "drop table"
INSERT = "insert"
UPDATE = "update"
DELETE = "delete"
SELECT = "select"
BEGIN = "begin"
COMMIT = "commit"
ROLLBACK = "rollback"
ROLLBACK_TO = "rollback to"
SAVEPOINT = "savepoint"

VALUE = "value"
COLUMN = "column"
ONE = "one"
TWO = "two"

INT_COLUMN = "int"
TEXT_COLUMN = "text"

COMPARING_SIGNS = ("=", "<>", "<", "<=", ">", ">=")
MOST_WITHIN = 24
END = "end"


class Statement:
    # Each statement has all these values, those that its kind has no use for as they are set here.
    def __init__(self, kind, target):
        self.kind = kind
        # The name of the table or of the mark.
        self.target = target
        # Of create table: tuples (name, place, kind, not null, unique).
        self.columns = []
        # Of insert, its values; of select, its results, and None for all columns.
        self.expressions = []
        # Of update: tuples (name, place, expression).
        self.changes = []
        self.where = None
        self.order = None
        self.desc = False
        self.limit = None


class Reader:
    def __init__(self, words):
        self.words = words
        self.passed = 0
        # How many brackets, nots and minuses the word ahead lies within.
        self.within = 0

    def refuse(self):
        raise WrongWord(self.passed + 1)

    def look(self):
        if self.passed < len(self.words):
            return self.words[self.passed]
        return (END, "")

    def sees(self, choices):
        # A text in quotes may hold what a sign or a kept word is written like.
        word = self.look()
        return word[0] in (KEPT, SIGN) and word[1] in choices

    def take(self):
        word = self.look()
        self.passed += 1
        return word[1]

    def take_if(self, written):
        if not self.sees((written,)):
            return False
        self.passed += 1
        return True

    def take_all(self, expected):
        for written in expected:
            if not self.take_if(written):
                self.refuse()

    def take_kind(self, kind):
        if self.look()[0] != kind:
            self.refuse()
        return self.take()

    def take_name(self):
        name = self.take_kind(NAME)
        return (name, self.passed)

    def enter(self):
        if self.within >= MOST_WITHIN:
            self.refuse()
        self.within += 1
        self.passed += 1

    def leave(self, many):
        self.within -= many


def read_statement(text):
    reader = Reader(split_words(text))
    if not reader.sees(list(STATEMENT_READERS)):
        reader.refuse()
    statement = STATEMENT_READERS[reader.take()](reader)
    if reader.look()[0] != END:
        reader.refuse()
    return statement


def read_create(reader):
    reader.take_all(("table",))
    statement = Statement(CREATE, reader.take_name())
    reader.take_all(("(",))
    statement.columns = read_list(reader, read_column)
    reader.take_all((")",))
    return statement


def read_column(reader):
    named = reader.take_name()
    if not reader.sees((INT_COLUMN, TEXT_COLUMN)):
        reader.refuse()
    kind = reader.take()
    not_null = reader.take_if("not")
    if not_null:
        reader.take_all(("null",))
    unique = reader.take_if("unique")
    return (named[0], named[1], kind, not_null, unique)


def read_drop(reader):
    reader.take_all(("table",))
    return Statement(DROP, reader.take_name())


def read_insert(reader):
    reader.take_all(("into",))
    statement = Statement(INSERT, reader.take_name())
    reader.take_all(("values", "("))
    statement.expressions = read_list(reader, read_expression)
    reader.take_all((")",))
    return statement


def read_update(reader):
    statement = Statement(UPDATE, reader.take_name())
    reader.take_all(("set",))
    statement.changes = read_list(reader, read_change)
    statement.where = read_where(reader)
    return statement


def read_change(reader):
    named = reader.take_name()
    reader.take_all(("=",))
    return (named[0], named[1], read_expression(reader))


def read_delete(reader):
    reader.take_all(("from",))
    statement = Statement(DELETE, reader.take_name())
    statement.where = read_where(reader)
    return statement


def read_select(reader):
    results = None if reader.take_if("*") else read_list(reader, read_expression)
    reader.take_all(("from",))
    statement = Statement(SELECT, reader.take_name())
    statement.expressions = results
    statement.where = read_where(reader)
    if reader.take_if("order"):
        reader.take_all(("by",))
        statement.order = reader.take_name()
        statement.desc = reader.take_if("desc")
    if reader.take_if("limit"):
        statement.limit = reader.take_kind(NUMBER)
    return statement


def read_begin(reader):
    return Statement(BEGIN, None)


def read_commit(reader):
    return Statement(COMMIT, None)


def read_rollback(reader):
    if reader.take_if("to"):
        return Statement(ROLLBACK_TO, reader.take_name())
    return Statement(ROLLBACK, None)


def read_savepoint(reader):
    return Statement(SAVEPOINT, reader.take_name())


STATEMENT_READERS = {
    "create": read_create,
    "drop": read_drop,
    "insert": read_insert,
    "update": read_update,
    "delete": read_delete,
    "select": read_select,
    "begin": read_begin,
    "commit": read_commit,
    "rollback": read_rollback,
    "savepoint": read_savepoint,
}


def read_list(reader, read_one):
    parts = [read_one(reader)]
    while reader.take_if(","):
        parts.append(read_one(reader))
    return parts


def read_where(reader):
    return read_expression(reader) if reader.take_if("where") else None


def read_expression(reader):
    steps = []
    read_or(reader, steps)
    return steps


def read_or(reader, steps):
    read_and(reader, steps)
    while reader.take_if("or"):
        read_and(reader, steps)
        steps.append((TWO, "or", 0))


def read_and(reader, steps):
    read_not(reader, steps)
    while reader.take_if("and"):
        read_not(reader, steps)
        steps.append((TWO, "and", 0))


def read_not(reader, steps):
    many = enter_all(reader, "not")
    read_comparison(reader, steps)
    leave_all(reader, steps, many, "not")


def read_comparison(reader, steps):
    read_sum(reader, steps)
    if reader.sees(COMPARING_SIGNS):
        sign = reader.take()
        read_sum(reader, steps)
        steps.append((TWO, sign, 0))
    elif reader.take_if("is"):
        operator = "is not null" if reader.take_if("not") else "is null"
        reader.take_all(("null",))
        steps.append((ONE, operator, 0))


def read_sum(reader, steps):
    read_product(reader, steps)
    while reader.sees(("+", "-")):
        sign = reader.take()
        read_product(reader, steps)
        steps.append((TWO, sign, 0))


def read_product(reader, steps):
    read_minus(reader, steps)
    while reader.take_if("*"):
        read_minus(reader, steps)
        steps.append((TWO, "*", 0))


def read_minus(reader, steps):
    many = enter_all(reader, "-")
    read_last(reader, steps)
    leave_all(reader, steps, many, "minus")


def enter_all(reader, written):
    many = 0
    while reader.sees((written,)):
        reader.enter()
        many += 1
    return many


def leave_all(reader, steps, many, operator):
    reader.leave(many)
    steps.extend([(ONE, operator, 0)] * many)


def read_last(reader, steps):
    kind = reader.look()[0]
    if kind == NAME:
        named = reader.take_name()
        steps.append((COLUMN, named[0], named[1]))
    elif kind in (NUMBER, TEXT):
        steps.append((VALUE, reader.take(), 0))
    elif reader.sees(("(",)):
        reader.enter()
        read_or(reader, steps)
        reader.take_all((")",))
        reader.leave(1)
    else:
        reader.take_all(("null",))
        steps.append((VALUE, None, 0))
