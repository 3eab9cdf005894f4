"""Which code a statement gets, and its place: [4.1] but for "dead", "language" and the last "room"."""

import unittest

from ledgerdb.judging import judge
from ledgerdb.reading import read_statement
from ledgerdb.tables import Column, Table


def state_behind(*texts):
    state = {}
    for text in texts:
        verdict = judge(read_statement(text), state, None)
        if verdict.code != "ok":
            raise AssertionError((text, verdict.code))
        state = verdict.state
    return state


def many(written, count):
    return ", ".join([written] * count)


class JudgingCase(unittest.TestCase):
    MADE = ("create table t (a int not null, b text unique, c int)", "insert into t values (1, 'x', null)",
            "create table u (d int)")

    def setUp(self):
        self.state = state_behind(*self.MADE)

    def judged(self, text, marks=None, state=None):
        verdict = judge(read_statement(text), self.state if state is None else state, marks)
        return verdict.code, verdict.place, verdict.answer

    def assert_refused(self, text, code, place, marks=None, state=None):
        state = self.state if state is None else state
        kept_marks = None if marks is None else list(marks)
        before = {name: (table.columns, table.rows) for name, table in state.items()}
        verdict = judge(read_statement(text), state, marks)
        self.assertEqual((verdict.code, verdict.place, verdict.answer), (code, place, 0), text)
        self.assertIs(verdict.state, state)
        self.assertEqual({name: (table.columns, table.rows) for name, table in state.items()}, before)
        self.assertEqual(marks, kept_marks)


class TakenTest(JudgingCase):
    def test_answers(self):
        for text, answer in (
                ("create table v (a int)", 0),
                ("drop table t", 0),
                ("insert into t values (2, 'y', 3)", 1),
                ("update t set a = 5", 1),
                ("update t set a = 5 where 0", 0),
                ("delete from t", 1),
                ("delete from u", 0),
                ("select * from t", [(1, "x", None)]),
                ("select a + 1, b from t", [(2, "x")]),
                ("select * from u", []),
                ("begin", 0)):
            self.assertEqual(self.judged(text), ("ok", 0, answer), text)
        for text in ("commit", "rollback", "savepoint s", "rollback to m"):
            self.assertEqual(self.judged(text, [("m", self.state)]), ("ok", 0, 0), text)

    def test_the_state_that_is_handed_in_stays(self):
        before = dict(self.state)
        for text in ("create table v (a int)", "drop table t", "insert into t values (2, 'y', 3)",
                     "update t set a = 5", "delete from t"):
            verdict = judge(read_statement(text), self.state, None)
            self.assertIsNot(verdict.state, self.state)
            self.assertEqual(self.state, before)
            self.assertEqual(self.state["t"].rows, ((1, "x", None),))

    def test_what_changes_nothing_leaves_the_state(self):
        for text in ("select * from t", "begin"):
            self.assertIs(judge(read_statement(text), self.state, None).state, self.state)

    def test_the_state_behind(self):
        def rows_behind(text):
            return {name: table.rows for name, table in judge(read_statement(text), self.state, None).state.items()}

        t, u = ((1, "x", None),), ()
        self.assertEqual(rows_behind("create table v (a int)"), {"t": t, "u": u, "v": ()})
        self.assertEqual(rows_behind("drop table t"), {"u": u})
        self.assertEqual(rows_behind("insert into u values (7)"), {"t": t, "u": ((7,),)})
        self.assertEqual(rows_behind("update t set c = 2"), {"t": ((1, "x", 2),), "u": u})
        self.assertEqual(rows_behind("delete from t"), {"t": (), "u": u})


class StateTest(JudgingCase):
    def test_begin_within(self):
        self.assert_refused("begin", "state", 0, [])
        self.assert_refused("begin", "state", 0, [("m", self.state)])

    def test_outside(self):
        for text in ("commit", "rollback", "rollback to s", "savepoint s"):
            self.assert_refused(text, "state", 0)

    def test_all_others_fit_both(self):
        for marks in (None, []):
            for text in ("create table v (a int)", "drop table t", "insert into u values (1)", "update t set c = 1",
                         "delete from t", "select * from t"):
                self.assertEqual(self.judged(text, marks)[0], "ok", text)


class NameTest(JudgingCase):
    def test_a_table_that_is_not_there(self):
        for text, place in (
                ("drop table v", 3),
                ("insert into v values (1)", 3),
                ("update v set a = 1", 2),
                ("delete from v", 3),
                ("select * from v", 4),
                ("select 1, 2 from v", 6)):
            self.assert_refused(text, "name", place)
            self.assert_refused(text, "name", place, [])

    def test_then_nothing_else_of_the_names_is_judged(self):
        for text, place in (
                ("insert into v values (zz)", 3),
                ("update v set zz = zz, zz = zz where zz", 2),
                ("delete from v where zz", 3),
                ("select zz, yy from v where xx order by ww", 6)):
            self.assert_refused(text, "name", place)

    def test_the_name_of_a_column_is_no_table(self):
        self.assert_refused("select * from a", "name", 4)
        self.assert_refused("select t from t", "name", 2)

    def test_columns_among_results(self):
        self.assert_refused("select z from t", "name", 2)
        self.assert_refused("select a, b, z from t", "name", 6)
        self.assert_refused("select a + 2 * (b - z) from t", "name", 9)
        self.assert_refused("select d from t", "name", 2)

    def test_columns_behind_where(self):
        self.assert_refused("select * from t where z", "name", 6)
        self.assert_refused("select * from t where a = 1 and z = 2", "name", 10)
        self.assert_refused("delete from t where not z is null", "name", 6)
        self.assert_refused("update t set a = 1 where z = 1", "name", 8)

    def test_columns_behind_set(self):
        self.assert_refused("update t set z = 1", "name", 4)
        self.assert_refused("update t set a = z", "name", 6)
        self.assert_refused("update t set a = 1, z = 2", "name", 8)
        self.assert_refused("update t set a = 1, b = z", "name", 10)

    def test_columns_behind_order_by(self):
        self.assert_refused("select * from t order by z", "name", 7)
        self.assert_refused("select a from t where b = 'x' order by d desc limit 1", "name", 11)

    def test_a_result_is_no_column_to_order_by(self):
        self.assertEqual(self.judged("select a from t order by c")[0], "ok")

    def test_every_column_in_values(self):
        self.assert_refused("insert into t values (a, 'y', 1)", "name", 6)
        self.assert_refused("insert into t values (2, 'y', c)", "name", 10)
        self.assert_refused("insert into t values (2, 'y' , 1 + (z))", "name", 13)
        self.assert_refused("insert into u values (d)", "name", 6)

    def test_a_mark_that_is_not_there(self):
        self.assert_refused("rollback to s", "name", 3, [])
        self.assert_refused("rollback to s", "name", 3, [("r", self.state), ("t", self.state)])
        self.assertEqual(self.judged("rollback to t", [("r", self.state), ("t", self.state)])[0], "ok")

    def test_a_new_mark_needs_no_name(self):
        for marks in ([], [("s", self.state)]):
            self.assertEqual(self.judged("savepoint s", marks)[0], "ok")

    def test_names_where_there_are_no_rows(self):
        for text, place in (("select z from u", 2), ("delete from u where z", 5), ("update u set d = z", 6),
                            ("select * from u order by z", 7)):
            self.assert_refused(text, "name", place)


class ExistsTest(JudgingCase):
    def test_a_table_that_is_there(self):
        self.assert_refused("create table t (z int)", "exists", 3)
        self.assert_refused("create table u (d int)", "exists", 3, [])

    def test_a_column_named_a_second_time(self):
        self.assert_refused("create table v (z int, z int)", "exists", 8)
        self.assert_refused("create table v (z int, y text not null, z text unique)", "exists", 13)
        self.assert_refused("create table v (z int, y int, z int, y int, z int)", "exists", 11)
        self.assert_refused("create table v (z int, z int, z int)", "exists", 8)

    def test_a_column_changed_a_second_time(self):
        self.assert_refused("update t set a = 1, a = 2", "exists", 8)
        self.assert_refused("update t set a = 1, b = 'y', c = 2, b = 'z', a = 4", "exists", 16)
        self.assert_refused("update u set d = 1, d = 1", "exists", 8)

    def test_a_table_may_have_a_name_that_a_column_has(self):
        self.assertEqual(self.judged("create table a (t int, u int)")[0], "ok")

    def test_a_column_may_be_named_as_often_as_one_likes_elsewhere(self):
        self.assertEqual(self.judged("select a, a, a from t where a = a order by a")[0], "ok")
        self.assertEqual(self.judged("update t set a = a, c = a + a where a = a")[0], "ok")


class LeastPlaceTest(JudgingCase):
    def test_of_several_names(self):
        self.assert_refused("select z, y from t where x order by w", "name", 2)
        self.assert_refused("select a, y from t where x order by w", "name", 4)
        self.assert_refused("select a, b from t where x order by w", "name", 8)
        self.assert_refused("select a, b from t where a order by w", "name", 11)
        self.assert_refused("update t set z = y, x = w where v", "name", 4)
        self.assert_refused("update t set a = y, x = w where v", "name", 6)
        self.assert_refused("update t set a = b, x = w where v", "name", 8)
        self.assert_refused("update t set a = b, b = w where v", "name", 10)
        self.assert_refused("insert into t values (1, z, y)", "name", 8)

    def test_of_several_that_exist(self):
        self.assert_refused("create table t (z int, z int)", "exists", 3)

    def test_of_both(self):
        self.assert_refused("update t set a = z, a = 1", "name", 6)
        self.assert_refused("update t set a = 1, a = z", "exists", 8)
        self.assert_refused("update t set z = 1, z = 1", "name", 4)
        self.assert_refused("update t set a = 1, a = 2 where z", "exists", 8)
        self.assert_refused("update t set a = 1, z = 2, a = 3", "name", 8)
        self.assert_refused("update t set a = 1, b = b, a = 3, z = 4", "exists", 12)


class RoomTest(JudgingCase):
    def test_tables(self):
        state = state_behind(*[f"create table t{k} (a int)" for k in range(3)])
        self.assertEqual(self.judged("create table t3 (a int)", state=state), ("ok", 0, 0))
        state = judge(read_statement("create table t3 (a int)"), state, None).state
        self.assert_refused("create table t4 (a int)", "room", 0, state=state)
        self.assert_refused("create table t4 (a int)", "room", 0, [], state)
        state = judge(read_statement("drop table t1"), state, None).state
        self.assertEqual(self.judged("create table t4 (a int)", state=state), ("ok", 0, 0))

    def test_columns(self):
        named = [f"c{k} int" for k in range(8)]
        self.assertEqual(self.judged(f"create table v ({', '.join(named[:6])})"), ("ok", 0, 0))
        self.assert_refused(f"create table v ({', '.join(named[:7])})", "room", 0)
        self.assert_refused(f"create table v ({', '.join(named)})", "room", 0)

    def test_results(self):
        self.assertEqual(self.judged(f"select {many('a', 8)} from t"), ("ok", 0, [(1,) * 8]))
        self.assert_refused(f"select {many('a', 9)} from t", "room", 0)
        self.assert_refused(f"select {many('a', 9)} from t limit 0", "room", 0)
        self.assert_refused(f"select {many('1', 20)} from u", "room", 0)

    def test_values(self):
        self.assert_refused(f"insert into t values ({many('1', 8)})", "constraint", 0)
        self.assert_refused(f"insert into t values ({many('1', 9)})", "room", 0)

    def test_changed_columns(self):
        # No table has so many columns, so that a ninth one is always a wrong name too, which comes ahead.
        changes = ", ".join([f"{name} = 1" for name in "abcabcabc"])
        self.assert_refused(f"update t set {changes}", "exists", 16)
        wide = state_behind("create table v (" + ", ".join([f"c{k} int" for k in range(6)]) + ")")
        changes = [f"c{k} = {k}" for k in range(9)]
        self.assertEqual(self.judged("update v set " + ", ".join(changes[:6]), state=wide), ("ok", 0, 0))
        self.assert_refused("update v set " + ", ".join(changes), "name", 28, state=wide)

    def test_changed_columns_of_a_table_that_is_wider(self):
        # Such a table is made past the judging, to see the bound by itself.
        names = [f"c{k}" for k in range(9)]
        wide = {"v": Table([Column(name, "int", False, False) for name in names], [])}
        changes = [f"{name} = 1" for name in names]
        self.assertEqual(self.judged("update v set " + ", ".join(changes[:8]), state=wide), ("ok", 0, 0))
        self.assert_refused("update v set " + ", ".join(changes), "room", 0, state=wide)

    def test_rows(self):
        rows = [f"insert into u values ({k})" for k in range(40)]
        state = state_behind("create table u (d int)", *rows[:39])
        self.assertEqual(self.judged("insert into u values (39)", state=state), ("ok", 0, 1))
        state = state_behind("create table u (d int)", "create table v (d int)", *rows)
        self.assert_refused("insert into u values (40)", "room", 0, state=state)
        self.assert_refused("insert into u values (40)", "room", 0, [], state)
        self.assertEqual(self.judged("insert into v values (40)", state=state), ("ok", 0, 1))
        self.assertEqual(self.judged("update u set d = d + 1", state=state), ("ok", 0, 40))
        state = judge(read_statement("delete from u where d = 5"), state, None).state
        self.assertEqual(self.judged("insert into u values (40)", state=state), ("ok", 0, 1))

    def test_marks(self):
        marks = [("s", self.state)] * 3
        self.assertEqual(self.judged("savepoint s", marks), ("ok", 0, 0))
        self.assert_refused("savepoint s", "room", 0, marks + [("s", self.state)])
        self.assert_refused("savepoint q", "room", 0, [(name, self.state) for name in "abcd"])

    def test_all_columns_of_a_table_are_no_ninth_result(self):
        self.assertEqual(self.judged("select * from t")[0], "ok")


class ConstraintTest(JudgingCase):
    def test_what_a_column_does_not_take(self):
        for text in (
                "insert into t values (null, 'y', 1)",
                "insert into t values ('y', 'y', 1)",
                "insert into t values (1, 2, 1)",
                "insert into t values (1, 'abcdefghijklmnopqrstu', 1)",
                "insert into t values (1, 'x', 1)",
                "insert into t values (1)",
                "insert into t values (1, 'y', 1, 1)",
                "update t set a = null",
                "update t set a = b",
                "update t set b = a"):
            self.assert_refused(text, "constraint", 0)
            self.assert_refused(text, "constraint", 0, [])


class TwoCodesTest(JudgingCase):
    def test_state_ahead_of_name(self):
        self.assert_refused("rollback to s", "state", 0)

    def test_name_ahead_of_room(self):
        self.assert_refused(f"select {many('a', 8)}, z from t", "name", 18)
        self.assert_refused(f"select {many('a', 9)} from v", "name", 20)
        self.assert_refused(f"insert into t values ({many('1', 8)}, z)", "name", 22)
        self.assert_refused(f"insert into v values ({many('1', 9)})", "name", 3)
        full = state_behind("create table u (d int)", *["insert into u values (1)"] * 40)
        self.assert_refused("insert into u values (d)", "name", 6, state=full)

    def test_exists_ahead_of_room(self):
        named = ", ".join([f"c{k} int" for k in range(7)])
        self.assert_refused(f"create table v ({named}, c0 int)", "exists", 26)
        self.assert_refused(f"create table t ({named})", "exists", 3)
        full = state_behind(*[f"create table t{k} (a int)" for k in range(4)])
        self.assert_refused("create table t0 (a int)", "exists", 3, state=full)
        self.assert_refused("create table t4 (a int, a int)", "exists", 8, state=full)

    def test_name_ahead_of_constraint(self):
        self.assert_refused("insert into t values (null, z)", "name", 8)
        self.assert_refused("insert into v values (null, 1)", "name", 3)
        self.assert_refused("update t set a = null where z", "name", 8)
        self.assert_refused("update t set a = null, z = 1", "name", 8)

    def test_exists_ahead_of_constraint(self):
        self.assert_refused("update t set a = null, a = null", "exists", 8)

    def test_room_ahead_of_constraint(self):
        full = state_behind("create table u (d int not null unique)",
                            *[f"insert into u values ({k})" for k in range(40)])
        for value in ("null", "'x'", "3", "1, 2"):
            self.assert_refused(f"insert into u values ({value})", "room", 0, state=full)
        self.assert_refused(f"insert into t values ({many('null', 9)})", "room", 0)


if __name__ == "__main__":
    unittest.main()
