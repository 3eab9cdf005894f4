"""How a state is written as numbers that pages take and read again: [1.1], [0.3], [3.1], [4.4]."""

import random
import unittest

from ledgerdb.codes import SIGNS, read_digits, read_state, write_digits, write_state
from ledgerdb.tables import Column, Table
from tests.plain_base import TEXTS, count_of

# All that texts may hold: from the blank to ~ but the one with the number 37, and line ends.
ALL_SIGNS = "\n" + "".join(chr(number) for number in range(32, 127) if number != 37)


def plain_table(table):
    return ([(column.name, column.kind, column.not_null, column.unique) for column in table.columns],
            list(table.rows))


def plain_state(state):
    return {name: plain_table(table) for name, table in state.items()}


def one_column(kind, values):
    return {"t": Table([Column("a", kind, False, False)], [(value,) for value in values])}


class CodesCase(unittest.TestCase):
    def assert_read_again(self, state):
        before = plain_state(state)
        numbers = write_state(state)
        self.assertIs(type(numbers), list)
        for number in numbers:
            self.assertIs(type(number), int)
            self.assertTrue(0 <= number <= 255, number)
        handed_in = list(numbers)
        again = read_state(numbers)
        self.assertEqual(numbers, handed_in)
        self.assertEqual(plain_state(state), before)
        self.assertEqual(plain_state(again), before)
        for table in again.values():
            for column in table.columns:
                self.assertIsInstance(column.not_null, bool)
                self.assertIsInstance(column.unique, bool)
            for row in table.rows:
                self.assertIs(type(row), tuple)
                for value in row:
                    self.assertIn(type(value), (type(None), int, str))
        # Far fewer would do for [4.4]: 37 numbers of a page for 15 of the count.
        self.assertLessEqual(len(numbers), count_of(before))


class DigitsTest(unittest.TestCase):
    def test_digits(self):
        self.assertEqual(write_digits(0, 0), [])
        self.assertEqual(write_digits(0, 3), [0, 0, 0])
        self.assertEqual(write_digits(255, 2), [255, 0])
        self.assertEqual(write_digits(256, 2), [0, 1])
        self.assertEqual(write_digits(3 + 2 * 256 + 1 * 65536, 3), [3, 2, 1])

    def test_read_again(self):
        for number in (0, 1, 255, 256, 257, 4000, 65535, 65536, 256 ** 8 - 1):
            self.assertEqual(read_digits(write_digits(number, 8)), number)
        self.assertEqual(read_digits([]), 0)


class StatesTest(CodesCase):
    def test_a_state_without_tables(self):
        self.assertEqual(write_state({}), [])
        self.assertEqual(read_state([]), {})

    def test_a_table_without_rows(self):
        self.assert_read_again({"t": Table([Column("a", "int", False, False)], [])})

    def test_each_kind_of_column(self):
        for kind in ("int", "text"):
            for not_null in (False, True):
                for unique in (False, True):
                    self.assert_read_again({"t": Table([Column("a", kind, not_null, unique)], [(None,)])})

    def test_different_states_have_different_numbers(self):
        written = []
        for kind in ("int", "text"):
            for not_null in (False, True):
                for unique in (False, True):
                    for rows in ([], [(None,)], [(0,)], [("",)], [(0,), (0,)], [(1,)], [(-1,)], [("1",)]):
                        for name in ("t", "u", "tt"):
                            state = {name: Table([Column("a", kind, not_null, unique)], rows)}
                            written.append(tuple(write_state(state)))
        self.assertEqual(len(set(written)), len(written))

    def test_tables_one_behind_the_other(self):
        columns = [Column("a", "int", True, False), Column("b_2", "text", False, True)]
        table = Table(columns, [(1, "x"), (-1, None), (0, "")])
        empty = Table(columns[:1], [])
        self.assert_read_again({"t": table, "u": empty})
        self.assert_read_again({"u": empty, "t": table})
        self.assert_read_again({"u": empty, "v": empty, "w": table, "t": table})

    def test_rows_keep_their_order(self):
        rows = [(3, "c"), (1, "a"), (2, "b"), (1, "a")]
        state = {"t": Table([Column("a", "int", False, False), Column("b", "text", False, False)], rows)}
        self.assertEqual(list(read_state(write_state(state))["t"].rows), rows)

    def test_as_many_as_there_can_be(self):
        columns = [Column(f"c{k}", "text" if k % 2 else "int", k > 2, k > 3) for k in range(6)]
        rows = [tuple("~" * 20 if k % 2 else (-1) ** k * (10 ** 30 - row) for k in range(6)) for row in range(40)]
        self.assert_read_again({f"t{k}": Table(columns, rows) for k in range(4)})

    def test_more_than_there_can_be(self):
        columns = [Column(f"c{k}", "int", False, False) for k in range(300)]
        self.assert_read_again({f"t{k}": Table(columns[:1], [(row,) for row in range(300)]) for k in range(6)})
        self.assert_read_again({"t": Table(columns, [tuple(range(300))])})

    def test_long_names(self):
        for many in (1, 2, 254, 255, 256, 257, 990, 70000):
            name = "n" + "_" * (many - 1)
            self.assert_read_again({name: Table([Column(name, "int", False, False)], [(many,)])})


class ValuesTest(CodesCase):
    def test_numbers(self):
        edges = [0, 10 ** 30, 10 ** 30 - 1, 10 ** 29]
        for width in range(1, 13):
            edges += [256 ** width - 1, 256 ** width, 256 ** width + 1]
        for number in edges:
            self.assert_read_again(one_column("int", [number, -number]))
        self.assert_read_again(one_column("int", edges))

    def test_numbers_somewhat_larger(self):
        self.assert_read_again(one_column("int", [10 ** 31, -10 ** 40, 10 ** 90]))

    def test_null(self):
        self.assert_read_again(one_column("int", [None, 0, None]))
        self.assert_read_again(one_column("text", [None, "", None]))

    def test_every_sign(self):
        self.assertEqual(sorted(SIGNS), sorted(ALL_SIGNS))
        for sign in ALL_SIGNS:
            self.assert_read_again(one_column("text", [sign, sign * 20, "a" + sign, sign + "a"]))

    def test_texts(self):
        self.assert_read_again(one_column("text", TEXTS))
        self.assert_read_again(one_column("text", ["null", "0", "'", "''", "\n\n", " ", ""]))
        for many in range(22):
            self.assert_read_again(one_column("text", ["b" * many]))
        self.assert_read_again(one_column("text", ["a" * 255, "a" * 256, "a" * 1000]))

    def test_values_by_chance(self):
        chance = random.Random(4)
        for turn in range(200):
            rows = []
            for k in range(chance.randrange(12)):
                number = chance.randint(-10 ** chance.randint(0, 30), 10 ** chance.randint(0, 30))
                text = "".join(chance.choice(ALL_SIGNS) for place in range(chance.randrange(21)))
                rows.append((chance.choice((number, None)), chance.choice((text, None)), number))
            columns = [Column("a", "int", False, False), Column("b", "text", False, True),
                       Column("c", "int", True, False)]
            self.assert_read_again({"t": Table(columns, rows), "u": Table(columns, rows[1:])})


if __name__ == "__main__":
    unittest.main()
