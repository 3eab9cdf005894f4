"""Promises [3.2] and [3.3]: tables, their rows, and what columns take."""

import random
import unittest

from ledgerdb.errors import Constraint
from ledgerdb.reading import DELETE, INSERT, SELECT, UPDATE, read_statement
from ledgerdb.tables import Table, delete_rows, insert_row, make_table, select_rows, update_rows

CHANGES = {INSERT: insert_row, UPDATE: update_rows, DELETE: delete_rows}


class Tried:
    """A table that statements are tried on, one after the other."""

    def __init__(self, columns):
        self.table = make_table(read_statement(f"create table t ({columns})"))

    def run(self, text):
        statement = read_statement(text)
        if statement.kind == SELECT:
            return select_rows(self.table, statement)
        self.table, many = CHANGES[statement.kind](self.table, statement)
        return many

    def insert(self, *values):
        for value in values:
            self.run(f"insert into t values ({value})")
        return self

    def rows(self):
        return self.run("select * from t")


class TablesCase(unittest.TestCase):
    def assert_refused(self, tried, text):
        table, rows = tried.table, tried.rows()
        with self.assertRaises(Constraint, msg=text):
            tried.run(text)
        self.assertIs(tried.table, table)
        self.assertEqual(tried.rows(), rows)


class MakeTest(TablesCase):
    def test_columns(self):
        table = Tried("a int, b text not null, c int unique, d text not null unique").table
        self.assertEqual([(column.name, column.kind, column.not_null, column.unique) for column in table.columns],
                         [("a", "int", False, False), ("b", "text", True, False), ("c", "int", False, True),
                          ("d", "text", True, True)])

    def test_no_rows_at_first(self):
        tried = Tried("a int")
        self.assertEqual(tried.rows(), [])
        self.assertEqual(tried.run("select a, 1 from t"), [])
        self.assertEqual(tried.run("update t set a = 'x'"), 0)
        self.assertEqual(tried.run("delete from t"), 0)


class InsertTest(TablesCase):
    def test_the_order_of_inserting(self):
        tried = Tried("a int, b text")
        self.assertEqual(tried.run("insert into t values (3, 'c')"), 1)
        tried.insert("1, 'a'", "2, null", "1, 'a'", "null, ''")
        self.assertEqual(tried.rows(), [(3, "c"), (1, "a"), (2, None), (1, "a"), (None, "")])

    def test_values_are_reckoned(self):
        tried = Tried("a int, b text, c int").insert("2 + 3 * -4, 'it''s', 'a' < 'b'", "null + 1, null, not null")
        self.assertEqual(tried.rows(), [(-10, "it's", 1), (None, None, None)])

    def test_the_count_of_values(self):
        tried = Tried("a int, b int").insert("1, 2")
        self.assert_refused(tried, "insert into t values (1)")
        self.assert_refused(tried, "insert into t values (1, 2, 3)")
        self.assert_refused(tried, "insert into t values (1, 2, null)")
        self.assert_refused(Tried("a int"), "insert into t values (1, 2)")
        self.assertEqual(tried.insert("3, 4").rows(), [(1, 2), (3, 4)])


class WhereTest(TablesCase):
    def setUp(self):
        self.tried = Tried("a int, b text").insert("1, 'x'", "null, 'y'", "0, ''", "-2, null")

    def test_true_false_and_unknown(self):
        for where, taken in (("a", [1, -2]), ("a = 0", [0]), ("not a", [0]), ("a is null", [None]), ("b", [1, None, 0]),
                             ("a < 1", [0, -2]), ("1", [1, None, 0, -2]), ("0", []), ("null", []),
                             ("''", [1, None, 0, -2]), ("a = null", []), ("a or b", [1, None, 0, -2]),
                             ("b is null", [-2]), ("not (a > 0)", [0, -2]), ("a * 1", [1, -2]), ("b * 1", [])):
            self.assertEqual(self.tried.run(f"select a from t where {where}"), [(a,) for a in taken], where)

    def test_all_rows_where_it_lacks(self):
        self.assertEqual(self.tried.run("select a from t"), [(1,), (None,), (0,), (-2,)])

    def test_update_and_delete_take_the_same_rows(self):
        for where, many in (("where a", 2), ("where null", 0), ("where a = 0", 1), ("", 4), ("where b", 3)):
            before = self.tried.table
            self.assertEqual(self.tried.run(f"update t set b = 'new' {where}"), many)
            self.assertEqual([row[1] for row in self.tried.rows()].count("new"), many)
            self.tried.table = before
            self.assertEqual(self.tried.run(f"delete from t {where}"), many)
            self.assertEqual(len(self.tried.rows()), 4 - many)
            self.tried.table = before


class UpdateAndDeleteTest(TablesCase):
    def test_rows_stay_where_they_are(self):
        tried = Tried("a int, b text").insert("1, 'a'", "2, 'b'", "3, 'c'")
        self.assertEqual(tried.run("update t set a = 9 where b = 'b'"), 1)
        self.assertEqual(tried.rows(), [(1, "a"), (9, "b"), (3, "c")])
        self.assertEqual(tried.run("update t set a = 0 - a"), 3)
        self.assertEqual(tried.rows(), [(-1, "a"), (-9, "b"), (-3, "c")])

    def test_the_order_behind_updates_and_deletes(self):
        tried = Tried("a int, b text").insert("1, 'a'", "2, 'b'", "3, 'c'", "4, 'd'")
        tried.run("delete from t where a = 2")
        tried.run("update t set b = 'new' where a = 1")
        tried.insert("2, 'again'")
        self.assertEqual(tried.rows(), [(1, "new"), (3, "c"), (4, "d"), (2, "again")])
        self.assertEqual(tried.run("delete from t"), 4)
        self.assertEqual(tried.insert("5, 'e'").rows(), [(5, "e")])

    def test_two_columns_from_one_another(self):
        tried = Tried("a int, b int, c int").insert("1, 2, 3", "4, 5, 6")
        self.assertEqual(tried.run("update t set a = b, b = a"), 2)
        self.assertEqual(tried.rows(), [(2, 1, 3), (5, 4, 6)])
        tried.run("update t set c = a + b, a = c, b = c * 2 where a = 2")
        self.assertEqual(tried.rows(), [(3, 6, 3), (5, 4, 6)])

    def test_columns_that_are_not_named_stay(self):
        tried = Tried("a int, b text, c int").insert("1, 'x', null")
        tried.run("update t set c = 7")
        self.assertEqual(tried.rows(), [(1, "x", 7)])

    def test_a_row_that_is_changed_to_what_it_was_counts(self):
        tried = Tried("a int").insert("1", "1")
        self.assertEqual(tried.run("update t set a = a"), 2)


class SelectTest(TablesCase):
    def test_results(self):
        tried = Tried("a int, b text").insert("1, 'x'", "2, null")
        self.assertEqual(tried.run("select * from t"), [(1, "x"), (2, None)])
        self.assertEqual(tried.run("select b, a from t"), [("x", 1), (None, 2)])
        self.assertEqual(tried.run("select a + a, a, b is null, 'y', a from t"), [(2, 1, 0, "y", 1), (4, 2, 1, "y", 2)])
        self.assertEqual(tried.run("select 1 from t"), [(1,), (1,)])

    def test_results_may_be_what_no_column_takes(self):
        tried = Tried("a text").insert("'x'")
        self.assertEqual(tried.run(f"select '{'y' * 21}', a + 1 from t"), [("y" * 21, None)])

    def test_kinds_of_the_answer(self):
        tried = Tried("a int").insert("1")
        for text in ("select * from t", "select a from t", "select a from t order by a limit 1"):
            found = tried.run(text)
            self.assertIs(type(found), list)
            self.assertIs(type(found[0]), tuple)

    def test_answers_are_new_lists(self):
        tried = Tried("a int").insert("1")
        tried.rows().append("more")
        tried.rows().clear()
        self.assertEqual(tried.rows(), [(1,)])


class OrderTest(TablesCase):
    def setUp(self):
        self.numbers = Tried("a int, n int").insert("3, 1", "null, 2", "-5, 3", "3, 4", "10, 5", "null, 6", "0, 7")
        self.texts = Tried("a text, n int").insert(
            "'b', 1", "null, 2", "'a', 3", "'', 4", "'ab', 5", "'a', 6", "'10', 7", "'9', 8", "'a\n', 9", "'A', 10")

    def ordered(self, tried, behind):
        return [n for (n,) in tried.run(f"select n from t {behind}")]

    def test_numbers(self):
        self.assertEqual(self.ordered(self.numbers, "order by a"), [2, 6, 3, 7, 1, 4, 5])
        self.assertEqual(self.ordered(self.numbers, "order by a desc"), [5, 1, 4, 7, 3, 2, 6])

    def test_texts(self):
        self.assertEqual(self.ordered(self.texts, "order by a"), [2, 4, 7, 8, 10, 3, 6, 9, 5, 1])
        self.assertEqual(self.ordered(self.texts, "order by a desc"), [1, 5, 9, 3, 6, 10, 8, 7, 4, 2])

    def test_without(self):
        self.assertEqual(self.ordered(self.numbers, ""), [1, 2, 3, 4, 5, 6, 7])

    def test_alike_values_stay_as_they_were(self):
        tried = Tried("a int, n int").insert("1, 1", "1, 2", "1, 3", "null, 4", "null, 5")
        self.assertEqual(self.ordered(tried, "order by a"), [4, 5, 1, 2, 3])
        self.assertEqual(self.ordered(tried, "order by a desc"), [1, 2, 3, 4, 5])

    def test_by_the_column_not_by_the_result(self):
        self.assertEqual(self.numbers.run("select 0 - a from t where a order by a"), [(5,), (-3,), (-3,), (-10,)])
        self.assertEqual(self.numbers.run("select * from t where a > 3 or a < 0 order by n desc"), [(10, 5), (-5, 3)])

    def test_mixed_kinds_in_a_table_made_by_hand(self):
        columns = self.numbers.table.columns
        table = Table(columns, [("x", 1), (None, 2), (5, 3), ("", 4), (-1, 5), (5, 6)])
        for desc, told in (("", [2, 5, 3, 6, 4, 1]), (" desc", [1, 4, 3, 6, 5, 2])):
            found = select_rows(table, read_statement(f"select n from t order by a{desc}"))
            self.assertEqual([n for (n,) in found], told)

    def test_limits(self):
        for limit in (0, 1, 3, 6, 7, 8, 40, 10 ** 30 - 1):
            self.assertEqual(self.ordered(self.numbers, f"limit {limit}"), [1, 2, 3, 4, 5, 6, 7][:limit])
            self.assertEqual(len(self.numbers.run(f"select * from t limit {limit}")), min(limit, 7))

    def test_a_limit_together_with_order_by_and_where(self):
        self.assertEqual(self.ordered(self.numbers, "order by a limit 3"), [2, 6, 3])
        self.assertEqual(self.ordered(self.numbers, "order by a desc limit 2"), [5, 1])
        self.assertEqual(self.ordered(self.numbers, "where a is not null order by a limit 2"), [3, 7])
        self.assertEqual(self.ordered(self.numbers, "where a is not null limit 2"), [1, 3])
        self.assertEqual(self.ordered(self.numbers, "where a > 0 order by a desc limit 9"), [5, 1, 4])
        self.assertEqual(self.ordered(self.numbers, "where a > 0 order by a desc limit 0"), [])
        self.assertEqual(self.ordered(self.numbers, "where null order by a limit 5"), [])

    def test_the_table_keeps_its_own_order(self):
        self.ordered(self.numbers, "order by a desc limit 1")
        self.assertEqual(self.ordered(self.numbers, ""), [1, 2, 3, 4, 5, 6, 7])


class ColumnsTakeTest(TablesCase):
    def test_null(self):
        tried = Tried("a int, b text, c int not null, d text not null").insert("null, null, 0, ''")
        self.assert_refused(tried, "insert into t values (1, 'x', null, 'x')")
        self.assert_refused(tried, "insert into t values (1, 'x', 1, null)")
        self.assert_refused(tried, "insert into t values (1, 'x', 'a' + 1, 'x')")
        self.assert_refused(tried, "update t set c = null")
        self.assert_refused(tried, "update t set a = 1, d = b")
        self.assertEqual(tried.rows(), [(None, None, 0, "")])

    def test_the_other_kind(self):
        tried = Tried("a int, b text").insert("1, 'x'")
        self.assert_refused(tried, "insert into t values ('1', 'x')")
        self.assert_refused(tried, "insert into t values ('', 'x')")
        self.assert_refused(tried, "insert into t values (1, 2)")
        self.assert_refused(tried, "insert into t values (1, 0)")
        self.assert_refused(tried, "update t set a = b")
        self.assert_refused(tried, "update t set b = a")
        self.assert_refused(tried, "update t set b = b = 'x'")
        self.assert_refused(tried, "update t set a = b, b = a")

    def test_the_length_of_texts(self):
        longest, quotes, too_long = "'" + "x" * 20 + "'", "'" + "''" * 20 + "'", "'" + "x" * 21 + "'"
        tried = Tried("a text").insert(longest, quotes, "''")
        self.assertEqual(tried.rows(), [("x" * 20,), ("'" * 20,), ("",)])
        self.assert_refused(tried, f"insert into t values ({too_long})")
        self.assert_refused(tried, "insert into t values ('" + " " * 21 + "')")
        self.assert_refused(tried, "insert into t values ('" + "\n" * 21 + "')")
        self.assert_refused(tried, "insert into t values ('" + "''" * 21 + "')")
        self.assert_refused(tried, f"update t set a = {too_long} where a = ''")
        self.assertEqual(tried.run(f"select a from t where a < {too_long} and a <> ''"), [("x" * 20,), ("'" * 20,)])

    def test_the_size_of_numbers(self):
        largest = 10 ** 30
        tried = Tried("a int not null").insert(f"{largest - 1} + 1", f"-{largest - 1} - 1")
        self.assertEqual(tried.rows(), [(largest,), (-largest,)])
        self.assert_refused(tried, f"insert into t values ({largest - 1} + 2)")
        self.assert_refused(tried, "update t set a = a * 2")

    def test_only_rows_that_are_taken_are_judged(self):
        tried = Tried("a int not null").insert("1", "2")
        self.assertEqual(tried.run("update t set a = null where a = 3"), 0)
        self.assertEqual(tried.run("update t set a = 'x' where null"), 0)
        self.assertEqual(tried.rows(), [(1,), (2,)])

    def test_one_row_of_many_is_enough(self):
        tried = Tried("a int not null, b int").insert("1, 1", "2, null", "3, 3")
        self.assert_refused(tried, "update t set a = b")
        self.assert_refused(tried, f"update t set a = a * {5 * 10 ** 29} where a > 1")
        self.assertEqual(tried.rows(), [(1, 1), (2, None), (3, 3)])


class UniqueTest(TablesCase):
    def test_null_is_left_out(self):
        tried = Tried("a int unique").insert("null", "null", "1", "null")
        self.assertEqual(tried.rows(), [(None,), (None,), (1,), (None,)])
        self.assertEqual(tried.run("update t set a = null"), 4)

    def test_alike_with_a_row_that_stays(self):
        tried = Tried("a int unique, b text unique").insert("1, 'x'", "2, 'y'")
        self.assert_refused(tried, "insert into t values (1, 'z')")
        self.assert_refused(tried, "insert into t values (3, 'x')")
        self.assert_refused(tried, "insert into t values (0 + 2, 'z')")
        self.assert_refused(tried, "update t set a = 2 where a = 1")
        self.assert_refused(tried, "update t set b = 'x' where a = 2")
        self.assertEqual(tried.insert("3, 'X'", "0, ''").rows(), [(1, "x"), (2, "y"), (3, "X"), (0, "")])

    def test_alike_within_the_statement(self):
        tried = Tried("a int unique").insert("1", "2")
        self.assert_refused(tried, "update t set a = 5")
        self.assert_refused(tried, "update t set a = a * 0")
        self.assertEqual(tried.run("update t set a = 5 where a = 1"), 1)
        self.assertEqual(tried.rows(), [(5,), (2,)])

    def test_values_turned_about(self):
        tried = Tried("a int unique").insert("1", "2", "3")
        self.assertEqual(tried.run("update t set a = 4 - a"), 3)
        self.assertEqual(tried.rows(), [(3,), (2,), (1,)])
        self.assertEqual(tried.run("update t set a = a + 1"), 3)
        self.assertEqual(tried.run("update t set a = a - 1"), 3)
        self.assertEqual(tried.rows(), [(3,), (2,), (1,)])

    def test_some_turned_about_into_a_row_that_stays(self):
        tried = Tried("a int unique").insert("1", "2", "3")
        self.assert_refused(tried, "update t set a = a + 1 where a < 3")
        self.assertEqual(tried.run("update t set a = a + 1 where a > 1"), 2)
        self.assertEqual(tried.rows(), [(1,), (3,), (4,)])

    def test_two_unique_columns_turned_about(self):
        tried = Tried("a int unique, b int unique").insert("1, 2", "2, 1")
        self.assertEqual(tried.run("update t set a = b, b = a"), 2)
        self.assertEqual(tried.rows(), [(2, 1), (1, 2)])
        tried.insert("5, 7", "null, 5")
        self.assertEqual(tried.run("update t set a = b, b = a"), 4)
        self.assertEqual(tried.rows(), [(1, 2), (2, 1), (7, 5), (5, None)])

    def test_a_value_that_was_deleted_or_changed_is_free(self):
        tried = Tried("a text unique").insert("'x'", "'y'")
        tried.run("delete from t where a = 'x'")
        tried.run("update t set a = 'z'")
        self.assertEqual(tried.insert("'x'", "'y'").rows(), [("z",), ("x",), ("y",)])

    def test_only_unique_columns(self):
        tried = Tried("a int, b int unique").insert("1, 1", "1, 2")
        self.assertEqual(tried.rows(), [(1, 1), (1, 2)])

    def test_not_null_and_unique(self):
        tried = Tried("a int not null unique").insert("1")
        self.assert_refused(tried, "insert into t values (null)")
        self.assert_refused(tried, "insert into t values (1)")


class NothingChangedTest(TablesCase):
    def test_a_table_stays_as_it_was_whatever_is_made_of_it(self):
        tried = Tried("a int unique, b text").insert("1, 'x'", "2, 'y'")
        table, rows = tried.table, tried.rows()
        for text in ("insert into t values (3, 'z')", "update t set a = a + 1", "delete from t where a = 1"):
            statement = read_statement(text)
            made, many = CHANGES[statement.kind](table, statement)
            self.assertIsNot(made, table)
            self.assertEqual(select_rows(table, read_statement("select * from t")), rows)

    def test_a_list_of_rows_that_is_handed_in_is_not_kept(self):
        rows = [(1, "x")]
        table = Table(Tried("a int, b text").table.columns, rows)
        rows.append((2, "y"))
        self.assertEqual(select_rows(table, read_statement("select * from t")), [(1, "x")])

    def test_a_statement_may_be_run_again(self):
        tried = Tried("a int, b text").insert("1, 'x'")
        statement = read_statement("update t set a = a + 1 where a > 0")
        for told in (2, 3, 4):
            tried.table = update_rows(tried.table, statement)[0]
            self.assertEqual(tried.rows(), [(told, "x")])
        made = read_statement("create table t (a int)")
        table = make_table(made)
        made.columns.clear()
        self.assertEqual(len(table.columns), 1)


class PlainRowsTest(TablesCase):
    """Promise [0.2]: statements by chance against plain lists of rows."""

    def judge(self, rows):
        numbers = [a for a, b in rows if a is not None]
        return len(set(numbers)) == len(numbers) and all(b is not None for a, b in rows)

    def step(self, chance, rows):
        """A statement, and the rows and the count it should give; None for rows that are refused."""
        number, least = chance.randint(0, 6), chance.randint(0, 6)
        kind = chance.randrange(5)
        if kind == 0 or len(rows) < 3:
            text = chance.choice(("x", "yy", None))
            value = chance.choice((number, None))
            told = rows + [(value, text)]
            shown = ["null" if value is None else str(value), "null" if text is None else f"'{text}'"]
            return f"insert into t values ({', '.join(shown)})", told, 1
        if kind == 1:
            taken = [a is not None and a >= least for a, b in rows]
            told = [(a + number, b) if take else (a, b) for (a, b), take in zip(rows, taken)]
            return f"update t set a = a + {number} where a >= {least}", told, sum(taken)
        if kind == 2:
            taken = [b == "x" for a, b in rows]
            told = [(number if take else a, "yy" if take else b) for (a, b), take in zip(rows, taken)]
            return f"update t set b = 'yy', a = {number} where b = 'x'", told, sum(taken)
        if kind == 3:
            told = [(None if a is None else number - a, b) for a, b in rows]
            return f"update t set a = {number} - a", told, len(rows)
        taken = [a is None or a < least for a, b in rows]
        told = [row for row, take in zip(rows, taken) if not take]
        return f"delete from t where a is null or a < {least}", told, sum(taken)

    def test_statements_by_chance(self):
        chance = random.Random(9)
        refused = 0
        for turn in range(40):
            tried, rows = Tried("a int unique, b text not null"), []
            for k in range(40):
                text, told, many = self.step(chance, rows)
                if self.judge(told):
                    self.assertEqual(tried.run(text), many, text)
                    rows = told
                else:
                    refused += 1
                    self.assert_refused(tried, text)
                self.assertEqual(tried.rows(), rows, text)
                self.check_selects(chance, tried, rows)
        self.assertGreater(refused, 100)

    def check_selects(self, chance, tried, rows):
        limit = chance.randint(0, 8)
        ahead = [row for row in rows if row[0] is None]
        numbers = sorted((row for row in rows if row[0] is not None), key=lambda row: row[0])
        self.assertEqual(tried.run(f"select * from t order by a limit {limit}"), (ahead + numbers)[:limit])
        self.assertEqual(tried.run("select * from t order by a desc"), numbers[::-1] + ahead)
        texts = [row for text in ("yy", "x") for row in rows if row[1] == text]
        self.assertEqual(tried.run("select a, b from t order by b desc"), texts)


if __name__ == "__main__":
    unittest.main()
