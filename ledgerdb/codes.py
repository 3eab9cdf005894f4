"""Writes a state as a list of whole numbers from 0 to 255, and reads it again.

A state is a dict from the names of tables to tables. Its numbers are those of its tables, one behind the other;
a state without tables has none.
"""

from ledgerdb.reading import INT_COLUMN, TEXT_COLUMN
from ledgerdb.tables import Column, Table

# A number that a page takes is one digit.
BASE = 256

# Every sign that a text may have: a sign's number is its place here.
SIGNS = "\n !\"#$&'()*+,-./0123456789:;<=>?@ABCDEFGHIJKLMNOPQRSTUVWXYZ[]^_`abcdefghijklmnopqrstuvwxyz{|}~\\"

NULL = 0
NUMBER = 1
NUMBER_BELOW_0 = 2
TEXT = 3


class Tape:
    def __init__(self, numbers):
        self.numbers = numbers
        self.passed = 0

    def has_more(self):
        return self.passed < len(self.numbers)

    def take_one(self):
        self.passed += 1
        return self.numbers[self.passed - 1]

    def take_many(self, many):
        start = self.passed
        self.passed += many
        return self.numbers[start:self.passed]


def write_digits(number, width):
    # The lowest digit comes first.
    digits = []
    for k in range(width):
        digits.append(number % BASE)
        number = number // BASE
    return digits


def read_digits(digits):
    number = 0
    for digit in reversed(digits):
        number = number * BASE + digit
    return number


def write_state(state):
    numbers = []
    for name, table in state.items():
        numbers.extend(write_text(name))
        numbers.extend(write_table(table))
    return numbers


def read_state(numbers):
    tape = Tape(numbers)
    state = {}
    while tape.has_more():
        name = read_text(tape)
        state[name] = read_table(tape)
    return state


def write_table(table):
    numbers = write_whole(len(table.columns)) + write_whole(len(table.rows))
    for column in table.columns:
        numbers.extend(write_column(column))
    for row in table.rows:
        for value in row:
            numbers.extend(write_value(value))
    return numbers


def read_table(tape):
    many_columns = read_whole(tape)
    many_rows = read_whole(tape)
    columns = [read_column(tape) for k in range(many_columns)]
    rows = [read_row(tape, many_columns) for k in range(many_rows)]
    return Table(columns, rows)


def write_column(column):
    is_text = column.kind == TEXT_COLUMN
    return write_text(column.name) + [int(is_text), int(column.not_null), int(column.unique)]


def read_column(tape):
    name = read_text(tape)
    kind = TEXT_COLUMN if tape.take_one() == 1 else INT_COLUMN
    not_null = tape.take_one() == 1
    unique = tape.take_one() == 1
    return Column(name, kind, not_null, unique)


def read_row(tape, many_values):
    return tuple([read_value(tape) for k in range(many_values)])


def write_value(value):
    if value is None:
        return [NULL]
    if isinstance(value, str):
        return [TEXT] + write_text(value)
    return [NUMBER_BELOW_0 if value < 0 else NUMBER] + write_whole(abs(value))


def read_value(tape):
    kind = tape.take_one()
    if kind == NULL:
        return None
    if kind == TEXT:
        return read_text(tape)
    size = read_whole(tape)
    return -size if kind == NUMBER_BELOW_0 else size


def write_text(text):
    return write_whole(len(text)) + [SIGNS.index(sign) for sign in text]


def read_text(tape):
    many = read_whole(tape)
    return "".join([SIGNS[number] for number in tape.take_many(many)])


def write_whole(number):
    # How many digits a whole number from 0 on has stands ahead of them.
    width = (number.bit_length() + 7) // 8
    return [width] + write_digits(number, width)


def read_whole(tape):
    width = tape.take_one()
    return read_digits(tape.take_many(width))
