"""Promise [3.1], and of [3.2] the order of values."""

import itertools
import random
import sys
import unittest

from ledgerdb.reading import read_statement
from ledgerdb.values import order_key, reckon

LARGEST = 10 ** 30
FALSE_VALUES = ("0", "-0", "(1 = 2)")
UNKNOWN_VALUES = ("null", "(null = 1)", "('a' + 1)")
TRUE_VALUES = ("1", "-1", "7", str(LARGEST - 1), "'a'", "''", "'0'", "' '", "(1 = 1)")

# Rising: each is ahead of all that follow it.
RISING = (-LARGEST, -7, -1, 0, 1, 2, 10, LARGEST, "", "\n", "\n\n", "\na", " ", " a", "'", "-", "0", "1", "10", "2",
          "A", "Z", "_", "a", "a\n", "a ", "a0", "aa", "ab", "b", "z", "~", "~~")


def write(value):
    if value is None:
        return "null"
    if isinstance(value, str):
        return "'" + value.replace("'", "''") + "'"
    if abs(value) == LARGEST:
        return f"({'-' if value < 0 else ''}1 * {LARGEST // 10} * 10)"
    return f"(-{-value})" if value < 0 else str(value)


def come_to(text, **row):
    return reckon(read_statement(f"select {text} from t").expressions[0], row)


class ValuesCase(unittest.TestCase):
    def assert_comes_to(self, text, value):
        found = come_to(text)
        self.assertEqual(found, value, text)
        self.assertIs(type(found), type(value), text)


class PlainValuesTest(ValuesCase):
    def test_as_they_stand(self):
        self.assert_comes_to("null", None)
        self.assert_comes_to("0", 0)
        self.assert_comes_to("9" * 30, LARGEST - 1)
        self.assert_comes_to("''", "")
        self.assert_comes_to("'it''s'", "it's")
        self.assert_comes_to("'a\nb'", "a\nb")
        self.assert_comes_to("'" + "x" * 100 + "'", "x" * 100)

    def test_columns(self):
        self.assertEqual(come_to("a", a=5, b="x"), 5)
        self.assertEqual(come_to("b", a=5, b="x"), "x")
        self.assertIsNone(come_to("b", a=5, b=None))
        self.assertEqual(come_to("a * a + b", a=5, b=1), 26)

    def test_nothing_handed_in_is_changed(self):
        expression = read_statement("select (a + 1) * -b from t").expressions[0]
        steps, row = list(expression), {"a": 2, "b": 3}
        self.assertEqual([reckon(expression, row) for k in range(3)], [-9, -9, -9])
        self.assertEqual((expression, row), (steps, {"a": 2, "b": 3}))


class TruthTest(ValuesCase):
    def assert_table(self, operator, table):
        kinds = (FALSE_VALUES, UNKNOWN_VALUES, TRUE_VALUES)
        for (lefts, row), (k, rights) in itertools.product(zip(kinds, table), enumerate(kinds)):
            for left, right in itertools.product(lefts, rights):
                self.assert_comes_to(f"{left} {operator} {right}", row[k])

    def test_and(self):
        self.assert_table("and", ((0, 0, 0), (0, None, None), (0, None, 1)))

    def test_or(self):
        self.assert_table("or", ((0, None, 1), (None, None, 1), (1, 1, 1)))

    def test_not(self):
        for values, told in ((FALSE_VALUES, 1), (UNKNOWN_VALUES, None), (TRUE_VALUES, 0)):
            for value in values:
                self.assert_comes_to(f"not {value}", told)
        self.assert_comes_to("not not 7", 1)
        self.assert_comes_to("not not 'a'", 1)
        self.assert_comes_to("not not 0", 0)
        self.assert_comes_to("not not null", None)

    def test_the_empty_text_is_true(self):
        self.assert_comes_to("'' and ''", 1)
        self.assert_comes_to("'' or 0", 1)
        self.assert_comes_to("not ''", 0)


class SumsTest(ValuesCase):
    def test_numbers(self):
        self.assert_comes_to("2 + 3", 5)
        self.assert_comes_to("2 - 3", -1)
        self.assert_comes_to("2 * 3", 6)
        self.assert_comes_to("-5", -5)
        self.assert_comes_to("- -5", 5)
        self.assert_comes_to("-0", 0)
        self.assert_comes_to("2 - 3 - 4", -5)
        self.assert_comes_to("2 - 3 * 4", -10)
        self.assert_comes_to("-2 * -3", 6)
        self.assert_comes_to("7 * 0", 0)

    def test_of_what_is_no_number(self):
        for sign, (left, right) in itertools.product(
                "+-*", itertools.product((1, 0, None, "a", "", "1"), repeat=2)):
            if not (isinstance(left, int) and isinstance(right, int)):
                self.assert_comes_to(f"{write(left)} {sign} {write(right)}", None)
        for value in (None, "a", "", "1"):
            self.assert_comes_to(f"-{write(value)}", None)
            self.assert_comes_to(f"- -{write(value)}", None)

    def test_sizes(self):
        half = LARGEST // 2
        for least in (1, 0):
            told = None if least else LARGEST
            self.assert_comes_to(f"{half} + {half + least}", told)
            self.assert_comes_to(f"{half} - -{half + least}", told)
            self.assert_comes_to(f"-{half} - {half + least}", None if least else -LARGEST)
            self.assert_comes_to(f"-{half} + -{half + least}", None if least else -LARGEST)
        self.assert_comes_to(f"{LARGEST - 1} + 1", LARGEST)
        self.assert_comes_to(f"{LARGEST - 1} + 2", None)
        self.assert_comes_to(f"-{LARGEST - 1} - 1", -LARGEST)
        self.assert_comes_to(f"-{LARGEST - 1} - 2", None)

    def test_sizes_of_products(self):
        tenth = LARGEST // 10
        for minus, size in (("", 1), ("-", -1)):
            self.assert_comes_to(f"{minus}{tenth} * 10", LARGEST * size)
            self.assert_comes_to(f"{tenth} * {minus}10", LARGEST * size)
            self.assert_comes_to(f"{minus}{tenth + 1} * 10", None)
            # 10 ** 30 + 1 is 101 times a whole number.
            self.assertEqual((LARGEST + 1) % 101, 0)
            self.assert_comes_to(f"{minus}101 * {(LARGEST + 1) // 101}", None)
        self.assert_comes_to(f"{LARGEST - 1} * {LARGEST - 1}", None)

    def test_the_minus_of_the_largest(self):
        self.assertEqual(come_to("-a", a=LARGEST), -LARGEST)
        self.assertEqual(come_to("-a", a=-LARGEST), LARGEST)
        self.assertEqual(come_to("a + 0", a=LARGEST), LARGEST)
        self.assertIsNone(come_to("a + 1", a=LARGEST))
        self.assertIsNone(come_to("a - 1", a=-LARGEST))
        self.assertEqual(come_to("a - 1", a=LARGEST), LARGEST - 1)

    def test_what_came_out_too_large_stays_null(self):
        self.assert_comes_to(f"{LARGEST - 1} + 2 - 2", None)
        self.assert_comes_to(f"({LARGEST - 1} * 10) * 0", None)
        self.assert_comes_to(f"{LARGEST - 1} + 2 is null", 1)

    def test_long_rows_of_operators(self):
        limit = sys.getrecursionlimit()
        self.assert_comes_to("+".join(["1"] * 3 * limit), 3 * limit)
        self.assert_comes_to(" and ".join(["1"] * 3 * limit), 1)
        self.assert_comes_to("-".join(["1"] * 450), -448)


class ComparisonsTest(ValuesCase):
    def assert_compared(self, left, right, side):
        """The side is below 0 where the left one comes ahead, 0 where they are alike, above 0 else."""
        told = {"=": side == 0, "<>": side != 0, "<": side < 0, "<=": side <= 0, ">": side > 0, ">=": side >= 0}
        for sign in told:
            self.assert_comes_to(f"{write(left)} {sign} {write(right)}", int(told[sign]))

    def test_numbers_and_texts(self):
        for (j, left), (k, right) in itertools.product(enumerate(RISING), repeat=2):
            self.assert_compared(left, right, j - k)

    def test_numbers_come_ahead_of_texts(self):
        self.assert_compared(1, "1", -1)
        self.assert_compared("1", 1, 1)
        self.assert_compared(LARGEST, "", -1)

    def test_texts_that_begin_alike(self):
        self.assert_compared("ab", "abc", -1)
        self.assert_compared("", "a", -1)
        self.assert_compared("ab", "ab\n", -1)
        self.assert_compared("ab\n", "ab ", -1)
        self.assert_compared("b", "abc", 1)

    def test_with_null(self):
        for sign in "= <> < <= > >=".split():
            for value in ("1", "0", "'a'", "''", "null"):
                self.assert_comes_to(f"{value} {sign} null", None)
                self.assert_comes_to(f"null {sign} {value}", None)

    def test_is_null_and_is_not_null(self):
        for values, told in ((FALSE_VALUES + TRUE_VALUES, 0), (UNKNOWN_VALUES, 1)):
            for value in values:
                self.assert_comes_to(f"{value} is null", told)
                self.assert_comes_to(f"{value} is not null", 1 - told)


class OrderTest(unittest.TestCase):
    def test_null_ahead_then_numbers_then_texts(self):
        rising = [None] + list(RISING)
        chance = random.Random(1)
        for turn in range(20):
            mixed = list(rising)
            chance.shuffle(mixed)
            self.assertEqual(sorted(mixed, key=order_key), rising)

    def test_alike_values_have_alike_keys(self):
        for value in (None, 0, 7, "", "a"):
            self.assertEqual(order_key(value), order_key(value))
        self.assertNotEqual(order_key(None), order_key(0))
        self.assertNotEqual(order_key(None), order_key(""))
        self.assertNotEqual(order_key(1), order_key("1"))


# The levels of the operators, from the loosest to the tightest.
LEVELS = {"or": 1, "and": 2, "not": 3, "=": 4, "<>": 4, "<": 4, "<=": 4, ">": 4, ">=": 4, "is null": 4,
          "is not null": 4, "+": 5, "-": 5, "*": 6, "minus": 7}
OF_ONE = ("not", "is null", "is not null", "minus")


def make_tree(chance, depth):
    if depth == 0 or chance.random() < 0.15:
        return chance.choice((None, 0, 1, 2, 7, 10 ** 29, LARGEST - 1, "", "a", "b\n", "1"))
    operator = chance.choice(list(LEVELS))
    return (operator,) + tuple(make_tree(chance, depth - 1) for k in range(1 if operator in OF_ONE else 2))


def write_tree(tree, level):
    """The tree with no more brackets than it needs where a part of that level is awaited."""
    if not isinstance(tree, tuple):
        return write(tree)
    own = LEVELS[tree[0]]
    if tree[0] in ("not", "minus"):
        text = {"not": "not ", "minus": "-"}[tree[0]] + write_tree(tree[1], own)
    elif len(tree) == 2:
        text = write_tree(tree[1], own + 1) + " " + tree[0]
    else:
        left = write_tree(tree[1], own + 1 if own == 4 else own)
        text = f"{left} {tree[0]} {write_tree(tree[2], own + 1)}"
    return text if level <= own else f"({text})"


def reckon_tree(tree):
    if not isinstance(tree, tuple):
        return tree
    operator, parts = tree[0], [reckon_tree(part) for part in tree[1:]]
    if operator in ("is null", "is not null"):
        return int((parts[0] is None) == (operator == "is null"))
    if operator in ("and", "or"):
        decisive = 0 if operator == "and" else 1
        truths = [None if part is None else int(part != 0) for part in parts]
        return decisive if decisive in truths else None if None in truths else 1 - decisive
    if None in parts:
        return None
    if operator == "not":
        return int(parts[0] == 0)
    if operator in ("+", "-", "*", "minus"):
        if any(isinstance(part, str) for part in parts):
            return None
        found = {"+": lambda a, b: a + b, "-": lambda a, b: a - b, "*": lambda a, b: a * b, "minus": lambda a: -a}
        number = found[operator](*parts)
        return number if -LARGEST <= number <= LARGEST else None
    signs = [[isinstance(part, str)] + [ord(sign) for sign in part] if isinstance(part, str) else [False, part]
             for part in parts]
    return int((operator in ("=", "<=", ">=") and signs[0] == signs[1])
               or (operator in ("<", "<=", "<>") and signs[0] < signs[1])
               or (operator in (">", ">=", "<>") and signs[0] > signs[1]))


class ExpressionsByChanceTest(ValuesCase):
    def test_expressions_come_to_what_their_parts_come_to(self):
        chance = random.Random(5)
        for turn in range(3000):
            tree = make_tree(chance, chance.randint(1, 4))
            self.assert_comes_to(write_tree(tree, 1), reckon_tree(tree))


if __name__ == "__main__":
    unittest.main()
