"""What operators make of values, how values are ordered, and what an expression comes to.

A value is None (null), a whole number or a text. A truth is False, True, or None for unknown. The row on which
an expression is reckoned is a dict from the names of columns to their values.
"""

from ledgerdb.reading import COLUMN, ONE, VALUE

# Which sides of the right operand a comparison wants the left one on.
COMPARISONS = {
    "=": (0,),
    "<>": (-1, 1),
    "<": (-1,),
    "<=": (-1, 0),
    ">": (1,),
    ">=": (0, 1),
}


def truth_of(value):
    return None if value is None else value != 0


def number_of(known_truth):
    return 1 if known_truth else 0


def join_and(left, right):
    truths = (truth_of(left), truth_of(right))
    if False in truths:
        return 0
    return None if None in truths else 1


def join_or(left, right):
    truths = (truth_of(left), truth_of(right))
    if True in truths:
        return 1
    return None if None in truths else 0


def turn_about(value):
    truth = truth_of(value)
    return None if truth is None else number_of(not truth)


def add(left, right):
    return keep_small(left + right) if are_numbers(left, right) else None


def subtract(left, right):
    return keep_small(left - right) if are_numbers(left, right) else None


def multiply(left, right):
    return keep_small(left * right) if are_numbers(left, right) else None


def negate(value):
    return keep_small(-value) if isinstance(value, int) else None


def are_numbers(left, right):
    return isinstance(left, int) and isinstance(right, int)


def keep_small(number):
    return number if abs(number) <= 10 ** 30 else None


def is_null(value):
    return number_of(value is None)


def is_not_null(value):
    return number_of(value is not None)


def order_key(value):
    # Kinds stand ahead of the values, for Python compares no number with a text.
    if value is None:
        return (0, 0)
    return (1, value) if isinstance(value, int) else (2, value)


def compare(sign, left, right):
    if left is None or right is None:
        return None
    return number_of(find_side(order_key(left), order_key(right)) in COMPARISONS[sign])


def find_side(left_key, right_key):
    if left_key == right_key:
        return 0
    return -1 if left_key < right_key else 1


OPERATORS_OF_ONE = {
    "not": turn_about,
    "minus": negate,
    "is null": is_null,
    "is not null": is_not_null,
}
OPERATORS_OF_TWO = {
    "or": join_or,
    "and": join_and,
    "+": add,
    "-": subtract,
    "*": multiply,
}


def apply_two(sign, left, right):
    if sign in COMPARISONS:
        return compare(sign, left, right)
    return OPERATORS_OF_TWO[sign](left, right)


def reckon(expression, row):
    pending = []
    for kind, value, place in expression:
        if kind == VALUE:
            pending.append(value)
        elif kind == COLUMN:
            pending.append(row[value])
        elif kind == ONE:
            pending.append(OPERATORS_OF_ONE[value](pending.pop()))
        else:
            right = pending.pop()
            pending.append(apply_two(value, pending.pop(), right))
    return pending[0]
