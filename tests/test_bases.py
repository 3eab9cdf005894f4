"""Databases as they are asked: [3.4], [4.1], [4.2], [4.3], and over all of it [0.1] and [0.3]."""

import unittest

from ledgerdb.bases import close, format_disk, open_base, run
from ledgerdb.disks import Disk
from ledgerdb.errors import Dead, NoBase
from tests.trials import make_base, make_disk, pages_of, rows_of, run_all, tables_of

DEAD = ("dead", 0, 0)
MADE = ("create table t (a int not null unique, b text)", "insert into t values (1, 'x')",
        "insert into t values (2, null)")
# One of each kind, and wrong ones.
STATEMENTS = (
    "create table u (a int)", "drop table t", "insert into t values (3, 'y')", "update t set b = 'z'", "delete from t",
    "select * from t", "begin", "commit", "rollback", "savepoint s", "rollback to s", "select * from nowhere",
    "insert into t values (1, 'x')", "", "nonsense", "select", "begin begin", "'", "create table t (a int)",
    "create table u (a int, b int, c int, d int, e int, f int, g int)")


def new_base(*texts):
    return make_base(60, *MADE, *texts)


def disk_of(base):
    return base.store.disk


class BasesCase(unittest.TestCase):
    def assert_reply(self, base, text, *reply):
        told = run(base, text)
        self.assertIs(type(told), tuple, text)
        self.assertEqual(told, reply, text)

    def assert_refused(self, base, text, code, place):
        """Refused so, and nothing is changed by it: neither what is seen nor the transaction nor the disk."""
        before = self.all_of(base)
        self.assert_reply(base, text, code, place, 0)
        self.assertEqual(self.all_of(base), before, text)

    def all_of(self, base):
        disk = disk_of(base)
        marks = None if base.marks is None else list(base.marks)
        return tables_of(base), marks, pages_of(disk), disk.done, disk.is_clean()

    def assert_rows(self, base, *rows):
        self.assertEqual(rows_of(base, "t"), list(rows))

    def reopened(self, base):
        return open_base(disk_of(base))


class RepliesTest(BasesCase):
    def test_answers_of_each_kind(self):
        base = make_base(60)
        for text, answer in (
                ("create table t (a int, b text)", 0),
                ("insert into t values (1, 'x')", 1),
                ("insert into t values (2, 'y')", 1),
                ("insert into t values (2, null)", 1),
                ("update t set b = 'z' where a = 2", 2),
                ("update t set b = 'z' where a = 5", 0),
                ("select * from t", [(1, "x"), (2, "z"), (2, "z")]),
                ("select b, a * 2 from t where a < 2", [("x", 2)]),
                ("select a from t where a > 2", []),
                ("select a from t order by a desc limit 1", [(2,)]),
                ("begin", 0),
                ("savepoint s", 0),
                ("delete from t where a = 2", 2),
                ("delete from t where a = 2", 0),
                ("rollback to s", 0),
                ("rollback", 0),
                ("begin", 0),
                ("commit", 0),
                ("delete from t", 3),
                ("drop table t", 0)):
            self.assert_reply(base, text, "ok", 0, answer)

    def test_kinds_of_what_is_told(self):
        base = new_base()
        reply = run(base, "select a, b from t")
        self.assertIs(type(reply[2]), list)
        for row in reply[2]:
            self.assertIs(type(row), tuple)
        for text in ("insert into t values (9, null)", "update t set b = 'q'", "delete from t where 0"):
            for part in run(base, text)[1:]:
                self.assertIs(type(part), int)

    def test_each_code(self):
        base = new_base()
        for text, code, place in (
                ("selec * from t", "language", 1),
                ("select * from t where", "language", 6),
                ("", "language", 1),
                ("insert into t values (1, 'x)", "language", 8),
                ("commit", "state", 0),
                ("select z from t", "name", 2),
                ("select * from z", "name", 4),
                ("create table t (a int)", "exists", 3),
                ("update t set a = 1, a = 2", "exists", 8),
                ("create table u (a int, b int, c int, d int, e int, f int, g int)", "room", 0),
                ("insert into t values (1, 'y')", "constraint", 0),
                ("insert into t values (null, 'y')", "constraint", 0),
                ("insert into t values (3, 4)", "constraint", 0),
                ("insert into t values (3)", "constraint", 0)):
            self.assert_refused(base, text, code, place)
            if code != "state":
                run_all(base, "begin")
                self.assert_refused(base, text, code, place)
                run_all(base, "rollback")
        self.assert_rows(base, (1, "x"), (2, None))

    def test_language_ahead_of_state(self):
        base = new_base()
        for text, place in (("commit x", 2), ("rollback to", 3), ("rollback s", 2), ("savepoint", 2),
                            ("savepoint select", 2), ("rollback to 1", 3)):
            self.assert_refused(base, text, "language", place)
        run_all(base, "begin")
        for text, place in (("begin begin", 2), ("begin 1", 2), ("savepoint", 2)):
            self.assert_refused(base, text, "language", place)
        run_all(base, "rollback")

    def test_language_ahead_of_all_others(self):
        base = new_base()
        self.assert_refused(base, "select z from nowhere where", "language", 6)
        self.assert_refused(base, "create table t (a int, a int", "language", 10)
        self.assert_refused(base, "insert into t values (null, z))", "language", 10)

    def test_state(self):
        base = new_base()
        for text in ("commit", "rollback", "rollback to s", "savepoint s"):
            self.assert_refused(base, text, "state", 0)
        run_all(base, "begin", "savepoint s")
        self.assert_refused(base, "begin", "state", 0)
        run_all(base, "commit")
        for text in ("commit", "rollback", "rollback to s", "savepoint s"):
            self.assert_refused(base, text, "state", 0)

    def test_constraint_ahead_of_too_few_pages(self):
        base = make_base(8, "create table t (a text not null, b text)")
        row = "insert into t values ('{0}', '{0}')".format("x" * 20)
        reply = run(base, row)
        while reply[0] == "ok":
            reply = run(base, row)
        self.assertEqual(reply, ("room", 0, 0))
        many = len(rows_of(base, "t"))
        self.assertLess(many, 40)
        self.assert_refused(base, "insert into t values (null, 'x')", "constraint", 0)
        self.assert_refused(base, "insert into t values (z, 'x')", "name", 6)
        self.assert_refused(base, "insert into t values ('x', 'x'", "language", 9)
        self.assert_refused(base, row, "room", 0)


class DeadTest(BasesCase):
    def assert_dead(self, base):
        disk = disk_of(base)
        before = (pages_of(disk), disk.done, disk.is_clean())
        for text in STATEMENTS * 2:
            self.assert_reply(base, text, *DEAD)
        self.assertEqual((pages_of(disk), disk.done, disk.is_clean()), before)

    def test_from_then_on_all_statements(self):
        for text in ("create table u (a int)", "drop table t", "insert into t values (3, 'y')", "update t set b = 'z'",
                     "delete from t"):
            base = new_base()
            disk_of(base).fill(0)
            self.assert_reply(base, text, *DEAD)
            self.assertTrue(disk_of(base).dead)
            disk_of(base).fill(None)
            self.assert_dead(base)

    def test_within_a_transaction(self):
        base = new_base("begin", "savepoint s", "insert into t values (3, 'y')")
        disk_of(base).fill(0)
        run_all(base, "update t set b = 'w'", "rollback to s", "delete from t where a = 1", "select * from t")
        self.assert_reply(base, "commit", *DEAD)
        self.assert_dead(base)

    def test_nothing_is_dead_while_nothing_is_to_be_kept(self):
        base = new_base()
        disk_of(base).fill(0)
        self.assert_rows(base, (1, "x"), (2, None))
        self.assert_refused(base, "nonsense", "language", 1)
        self.assert_refused(base, "commit", "state", 0)
        self.assert_refused(base, "drop table u", "name", 3)
        self.assert_refused(base, "insert into t values (1, 'x')", "constraint", 0)
        run_all(base, "begin", "insert into t values (3, 'y')", "rollback")
        self.assertFalse(disk_of(base).dead)
        disk_of(base).fill(None)
        run_all(base, "insert into t values (3, 'y')")
        self.assertEqual(rows_of(self.reopened(base), "t"), [(1, "x"), (2, None), (3, "y")])

    def test_a_disk_that_died_meanwhile(self):
        base = new_base()
        disk_of(base).fill(0)
        with self.assertRaises(Dead):
            disk_of(base).sync()
        self.assert_rows(base, (1, "x"), (2, None))
        self.assert_refused(base, "insert into t values (1, 'x')", "constraint", 0)
        self.assert_reply(base, "update t set b = 'q' where 0", *DEAD)
        self.assert_dead(base)

    def test_each_fuel(self):
        for keeping in ("insert into t values (3, 'y')", "delete from t", "drop table t", "create table u (a int)"):
            base = new_base()
            done = disk_of(base).done
            run_all(base, keeping)
            need = disk_of(base).done - done
            self.assertGreater(need, 1)
            for fuel in range(need + 1):
                base = new_base()
                disk_of(base).fill(fuel)
                if fuel < need:
                    self.assert_reply(base, keeping, *DEAD)
                    self.assert_dead(base)
                else:
                    run_all(base, keeping)
                    self.assertFalse(disk_of(base).dead)


class TransactionTest(BasesCase):
    def test_commit(self):
        base = new_base("begin", "insert into t values (3, 'y')", "update t set b = 'z' where a = 1", "commit")
        self.assert_rows(base, (1, "z"), (2, None), (3, "y"))
        self.assertEqual(tables_of(self.reopened(base)), tables_of(base))

    def test_rollback(self):
        base = new_base("begin", "insert into t values (3, 'y')", "delete from t where a = 1", "rollback")
        self.assert_rows(base, (1, "x"), (2, None))
        self.assertEqual(tables_of(self.reopened(base)), tables_of(base))

    def test_seen_by_the_statements_behind(self):
        base = new_base("begin")
        self.assert_reply(base, "insert into t values (3, 'y')", "ok", 0, 1)
        self.assert_rows(base, (1, "x"), (2, None), (3, "y"))
        self.assert_reply(base, "update t set a = a + 1", "ok", 0, 3)
        self.assert_rows(base, (2, "x"), (3, None), (4, "y"))
        self.assert_refused(base, "insert into t values (4, 'w')", "constraint", 0)
        self.assert_reply(base, "insert into t values (1, 'w')", "ok", 0, 1)
        run_all(base, "create table u (c int)")
        self.assert_refused(base, "create table u (c int)", "exists", 3)
        self.assert_reply(base, "insert into u values (7)", "ok", 0, 1)
        self.assertEqual(rows_of(base, "u"), [(7,)])
        run_all(base, "drop table t")
        self.assert_refused(base, "select * from t", "name", 4)
        run_all(base, "create table t (z text)")
        self.assert_rows(base)

    def test_one_transaction_behind_the_other(self):
        base = new_base("begin", "delete from t", "rollback", "begin", "insert into t values (3, 'y')", "commit",
                        "begin", "rollback", "begin", "commit", "begin", "delete from t where a = 1", "commit")
        self.assert_rows(base, (2, None), (3, "y"))
        self.assertEqual(rows_of(self.reopened(base), "t"), [(2, None), (3, "y")])

    def test_a_statement_of_its_own_is_kept_at_once(self):
        base = make_base(60)
        for text in MADE + ("update t set b = 'q' where a = 2", "create table u (c int)", "insert into u values (5)",
                            "delete from t where a = 1", "drop table u"):
            before = tables_of(base)
            run_all(base, text)
            self.assertNotEqual(tables_of(base), before)
            self.assertEqual(tables_of(self.reopened(base)), tables_of(base))
            self.assertEqual(tables_of(open_base(disk_of(base).cut([]))), tables_of(base))
        self.assertEqual(tables_of(base), {"t": ([("a", "int", True, True), ("b", "text", False, False)], [(2, "q")])})

    def test_tables_made_and_dropped_are_undone(self):
        base = new_base("create table u (c int)", "insert into u values (5)")
        before = tables_of(base)
        run_all(base, "begin", "create table v (a int)", "drop table u", "drop table t", "create table t (z text)",
                "insert into t values ('new')")
        self.assertEqual(sorted(tables_of(base)), ["t", "v"])
        run_all(base, "rollback")
        self.assertEqual(tables_of(base), before)
        self.assert_refused(base, "select * from v", "name", 4)
        self.assert_refused(base, "insert into t values (1, 'y')", "constraint", 0)

    def test_a_refused_statement_leaves_the_transaction(self):
        base = new_base("begin", "savepoint s", "insert into t values (3, 'y')")
        for text in ("insert into t values (3, 'y')", "nonsense", "drop table z", "begin", "rollback to z",
                     "create table t (a int)", "select 1, 2, 3, 4, 5, 6, 7, 8, 9 from t"):
            self.assertNotEqual(run(base, text)[0], "ok")
        self.assert_rows(base, (1, "x"), (2, None), (3, "y"))
        run_all(base, "rollback to s", "commit")
        self.assert_rows(base, (1, "x"), (2, None))


class MarksTest(BasesCase):
    def setUp(self):
        self.base = make_base(60, "create table t (a int)", "begin")

    def add(self, number):
        run_all(self.base, f"insert into t values ({number})")

    def assert_numbers(self, *numbers):
        self.assertEqual(rows_of(self.base, "t"), [(number,) for number in numbers])

    def test_back_to_a_mark(self):
        self.add(1)
        run_all(self.base, "savepoint s")
        self.add(2)
        run_all(self.base, "rollback to s")
        self.assert_numbers(1)
        self.add(3)
        run_all(self.base, "commit")
        self.assert_numbers(1, 3)

    def test_the_mark_stays(self):
        run_all(self.base, "savepoint s")
        for number in range(3):
            self.add(number)
            run_all(self.base, "rollback to s")
            self.assert_numbers()
            run_all(self.base, "rollback to s")

    def test_later_marks_are_forgotten(self):
        run_all(self.base, "savepoint p")
        self.add(1)
        run_all(self.base, "savepoint q")
        self.add(2)
        run_all(self.base, "savepoint r")
        self.add(3)
        run_all(self.base, "rollback to q")
        self.assert_numbers(1)
        self.assert_refused(self.base, "rollback to r", "name", 3)
        self.add(4)
        run_all(self.base, "rollback to q")
        self.assert_numbers(1)
        run_all(self.base, "rollback to p")
        self.assert_numbers()
        self.assert_refused(self.base, "rollback to q", "name", 3)
        self.assert_refused(self.base, "rollback to r", "name", 3)
        run_all(self.base, "rollback to p")

    def test_a_name_marked_more_than_once(self):
        run_all(self.base, "savepoint s")
        self.add(1)
        run_all(self.base, "savepoint m")
        self.add(2)
        run_all(self.base, "savepoint s")
        self.add(3)
        run_all(self.base, "rollback to s")
        self.assert_numbers(1, 2)
        run_all(self.base, "rollback to s")
        self.assert_numbers(1, 2)
        run_all(self.base, "rollback to m")
        self.assert_numbers(1)
        run_all(self.base, "rollback to s")
        self.assert_numbers()
        self.assert_refused(self.base, "rollback to m", "name", 3)
        run_all(self.base, "rollback")
        self.assert_numbers()

    def test_five_marks(self):
        for name in ("s", "s", "q", "s"):
            run_all(self.base, f"savepoint {name}")
            self.add(1)
        for name in ("s", "q", "new"):
            self.assert_refused(self.base, f"savepoint {name}", "room", 0)
        run_all(self.base, "rollback to s")
        self.assert_refused(self.base, "savepoint s", "room", 0)
        run_all(self.base, "rollback to q", "savepoint s")
        self.assert_refused(self.base, "savepoint s", "room", 0)
        self.assert_numbers(1, 1)

    def test_marks_are_gone_once_the_transaction_has_ended(self):
        for end in ("commit", "rollback"):
            for number in range(4):
                run_all(self.base, "savepoint s")
            run_all(self.base, end)
            self.assert_refused(self.base, "rollback to s", "state", 0)
            run_all(self.base, "begin")
            self.assert_refused(self.base, "rollback to s", "name", 3)
            for number in range(4):
                run_all(self.base, "savepoint q")
            self.assert_refused(self.base, "savepoint q", "room", 0)
            run_all(self.base, "rollback", "begin")

    def test_a_mark_may_be_called_like_a_table(self):
        run_all(self.base, "savepoint t", "drop table t", "rollback to t")
        self.assert_numbers()

    def test_tables_are_undone_likewise(self):
        self.add(1)
        run_all(self.base, "create table u (b text)", "savepoint s", "drop table t", "create table t (z text)",
                "insert into t values ('new')", "insert into u values ('x')", "create table v (a int)",
                "rollback to s")
        self.assert_numbers(1)
        self.assertEqual(rows_of(self.base, "u"), [])
        self.assert_refused(self.base, "select * from v", "name", 4)
        run_all(self.base, "commit")
        again = self.reopened(self.base)
        self.assertEqual(sorted(tables_of(again)), ["t", "u"])
        self.assertEqual(rows_of(again, "t"), [(1,)])

    def test_rollback_past_all_marks(self):
        self.add(1)
        run_all(self.base, "savepoint s")
        self.add(2)
        run_all(self.base, "rollback to s", "rollback")
        self.assert_numbers()

    def test_commit_behind_going_back(self):
        self.add(1)
        run_all(self.base, "savepoint s")
        self.add(2)
        run_all(self.base, "rollback to s", "commit")
        self.assertEqual(rows_of(self.reopened(self.base), "t"), [(1,)])


class OpeningTest(BasesCase):
    def test_disks_of_7_and_8_pages(self):
        with self.assertRaises(NoBase):
            format_disk(Disk(7))
        disk = Disk(8)
        self.assertIsNone(format_disk(disk))
        self.assertTrue(disk.is_clean())
        base = open_base(disk)
        self.assert_refused(base, "select * from t", "name", 4)
        run_all(base, *MADE)
        self.assert_rows(open_base(disk), (1, "x"), (2, None))

    def test_disks_without_fuel(self):
        disk = Disk(8)
        disk.fill(0)
        with self.assertRaises(Dead):
            format_disk(disk)

    def test_made_ready_twice(self):
        base = new_base()
        close(base)
        format_disk(disk_of(base))
        again = self.reopened(base)
        self.assertEqual(tables_of(again), {})
        run_all(again, *MADE)
        self.assertEqual(tables_of(self.reopened(base)), tables_of(again))

    def test_no_base(self):
        for pages in (0, 1, 7, 8, 20, 4000):
            disk = Disk(pages)
            with self.assertRaises(NoBase):
                open_base(disk)
            with self.assertRaises(NoBase):
                open_base(disk.cut([]))

    def test_opening_writes_nothing(self):
        for disk in (make_disk(8), disk_of(new_base())):
            before = (pages_of(disk), disk.done)
            disk.fill(0)
            open_base(disk)
            self.assertEqual((pages_of(disk), disk.done, disk.is_clean(), disk.dead), (*before, True, False))

    def test_closing(self):
        for inside in ((), ("begin",), ("begin", "insert into t values (3, 'y')", "savepoint s", "drop table t")):
            base = new_base()
            before = tables_of(base)
            run_all(base, *inside)
            pages, done = pages_of(disk_of(base)), disk_of(base).done
            self.assertIsNone(close(base))
            for text in STATEMENTS:
                self.assert_reply(base, text, *DEAD)
            self.assertIsNone(close(base))
            self.assert_reply(base, "select * from t", *DEAD)
            self.assertEqual((pages_of(disk_of(base)), disk_of(base).done), (pages, done))
            self.assertFalse(disk_of(base).dead)
            again = self.reopened(base)
            self.assertEqual(tables_of(again), before)
            self.assert_refused(again, "commit", "state", 0)
            run_all(again, "insert into t values (3, 'y')")
            self.assert_rows(again, (1, "x"), (2, None), (3, "y"))

    def test_a_dead_one_is_closed(self):
        base = new_base()
        disk_of(base).fill(0)
        run(base, "delete from t")
        self.assertIsNone(close(base))
        self.assert_reply(base, "select * from t", *DEAD)

    def test_opened_beside(self):
        base = new_base("begin", "insert into t values (3, 'y')")
        beside = self.reopened(base)
        self.assert_rows(beside, (1, "x"), (2, None))
        self.assert_rows(base, (1, "x"), (2, None), (3, "y"))
        close(beside)
        self.assert_rows(base, (1, "x"), (2, None), (3, "y"))
        run_all(base, "commit")
        self.assert_rows(self.reopened(base), (1, "x"), (2, None), (3, "y"))

    def test_what_is_asked_beside_changes_nothing_for_the_other(self):
        base = new_base()
        beside = self.reopened(base)
        run_all(beside, "begin", "delete from t", "rollback", "begin", "drop table t")
        self.assert_rows(base, (1, "x"), (2, None))
        run_all(base, "insert into t values (3, 'y')")
        self.assert_rows(self.reopened(base), (1, "x"), (2, None), (3, "y"))

    def test_opened_behind_a_cut_of_a_dead_disk(self):
        base = new_base()
        disk = disk_of(base)
        disk.fill(0)
        self.assert_reply(base, "delete from t", *DEAD)
        again = open_base(disk.cut([]))
        self.assert_rows(again, (1, "x"), (2, None))
        run_all(again, "delete from t where a = 1")
        self.assert_rows(self.reopened(again), (2, None))

    def test_behind_a_cut_of_a_living_disk(self):
        base = new_base("begin", "delete from t")
        self.assert_rows(open_base(disk_of(base).cut([1, 2, 1, 2])), (1, "x"), (2, None))


class WritingTest(BasesCase):
    def test_what_neither_writes_nor_syncs(self):
        base = new_base()
        disk = disk_of(base)
        done = disk.done
        for text in (
                "select * from t", "select a from t where b is null order by a desc limit 3",
                "nonsense", "commit", "savepoint s", "drop table z", "create table t (a int)",
                "insert into t values (null, 'x')", "update t set a = null",
                "begin", "select * from t", "begin", "savepoint s", "savepoint s", "insert into t values (3, 'y')",
                "update t set b = 'w'", "delete from t where a = 1", "create table u (a int)", "drop table t",
                "rollback to z", "rollback to s", "insert into t values (1, 'x')", "savepoint q", "drop table t",
                "rollback", "begin", "rollback", "begin", "drop table t"):
            run(base, text)
            self.assertEqual((disk.done, disk.is_clean()), (done, True), text)
        close(base)
        self.assertEqual((disk.done, disk.is_clean()), (done, True))

    def test_what_keeps_leaves_nothing_waiting(self):
        base = make_base(60)
        disk = disk_of(base)
        for text in MADE + ("update t set b = 'w'", "update t set b = 'w'", "delete from t where 0", "begin", "commit",
                            "begin", "insert into t values (7, 'x')", "savepoint s", "drop table t", "rollback to s",
                            "commit", "delete from t", "drop table t", "create table t (a int)"):
            run_all(base, text)
            self.assertTrue(disk.is_clean(), text)

    def test_what_was_told_as_ok_is_there_behind_a_cut(self):
        base = make_base(60)
        for text in MADE + ("update t set b = 'w'", "delete from t where a = 1", "drop table t"):
            run_all(base, text)
            for fates in ([], [0] * 60, [1] * 60, [2] * 60):
                self.assertEqual(tables_of(open_base(disk_of(base).cut(fates))), tables_of(base))


class ApartTest(BasesCase):
    def test_what_a_select_told_may_be_changed(self):
        base = new_base()
        for text in ("select * from t", "select a, b from t"):
            told = run(base, text)
            told[2].append("more")
            told[2][0] = None
            self.assert_reply(base, text, "ok", 0, [(1, "x"), (2, None)])
            self.assertIsNot(run(base, text)[2], run(base, text)[2])
        self.assertEqual(rows_of(self.reopened(base), "t"), [(1, "x"), (2, None)])

    def test_what_an_empty_select_told_may_be_changed(self):
        base = new_base("delete from t")
        run(base, "select * from t")[2].append((1, "x"))
        self.assert_rows(base)

    def test_two_databases(self):
        one, other = make_base(60, "create table t (a int)"), make_base(60, "create table u (a int)")
        run_all(one, "insert into t values (1)", "begin", "savepoint s")
        self.assert_refused(other, "select * from t", "name", 4)
        self.assert_refused(other, "commit", "state", 0)
        self.assert_refused(one, "select * from u", "name", 4)
        run_all(other, "begin")
        self.assert_refused(other, "rollback to s", "name", 3)
        run_all(other, "insert into u values (2)", "commit")
        disk_of(one).fill(0)
        run_all(one, "delete from t")
        self.assert_reply(one, "commit", *DEAD)
        run_all(other, "insert into u values (3)")
        close(one)
        self.assertEqual(rows_of(other, "u"), [(2,), (3,)])
        self.assertEqual(tables_of(open_base(disk_of(other))), tables_of(other))

    def test_a_disk_and_what_was_cut_from_it(self):
        base = new_base()
        twin = open_base(disk_of(base).cut([]))
        run_all(base, "delete from t")
        run_all(twin, "insert into t values (3, 'y')")
        self.assert_rows(twin, (1, "x"), (2, None), (3, "y"))
        self.assert_rows(base)
        self.assertEqual(rows_of(self.reopened(base), "t"), [])
        self.assertEqual(rows_of(self.reopened(twin), "t"), [(1, "x"), (2, None), (3, "y")])

    def test_what_made_a_table_is_there_behind_opening(self):
        base = make_base(60, "create table t (a int not null, b int unique, c text not null unique, d text)",
                         "insert into t values (1, 2, 'x', 'y')")
        for again in (base, self.reopened(base), open_base(disk_of(base).cut([]))):
            for row in ("null, 3, 'z', 'y'", "1, 2, 'z', 'y'", "1, 3, null, 'y'", "1, 3, 'x', 'y'", "'1', 3, 'z', 'y'",
                        "1, '3', 'z', 'y'", "1, 3, 4, 'y'", "1, 3, 'z', 5", "1, 3, 'z'", "1, 3, 'z', 'y', 1",
                        "1, 3, 'z', 'abcdefghijklmnopqrstu'"):
                self.assert_refused(again, f"insert into t values ({row})", "constraint", 0)
            run_all(again, "begin", "insert into t values (1, null, 'z', null)",
                    "insert into t values (1, null, '', 'abcdefghijklmnopqrst')", "rollback")


class ValuesTest(BasesCase):
    def assert_kept(self, kind, written, value):
        base = make_base(60, f"create table t (a {kind})", f"insert into t values ({written})")
        for again in (base, self.reopened(base), open_base(disk_of(base).cut([]))):
            self.assert_rows(again, (value,))

    def test_numbers(self):
        for number in (0, 1, 255, 256, 65535, 65536, 10 ** 15, 2 ** 64, 10 ** 29, 10 ** 30 - 1):
            self.assert_kept("int", str(number), number)
            self.assert_kept("int", f"-{number}", -number)
        self.assert_kept("int", "9" * 30 + " + 1", 10 ** 30)
        self.assert_kept("int", "-" + "9" * 30 + " - 1", -10 ** 30)
        self.assert_kept("int", "9" * 30 + " + 2", None)
        self.assert_kept("int", "-" + "9" * 30 + " * 2", None)
        self.assert_kept("int", "0" * 29 + "7", 7)

    def test_null(self):
        self.assert_kept("int", "null", None)
        self.assert_kept("text", "null", None)
        self.assert_kept("text", "'null'", "null")

    def test_texts_of_each_sign(self):
        signs = "\n" + "".join(chr(number) for number in range(32, 127) if number != 37)
        for sign in signs:
            written = "''" if sign == "'" else sign
            self.assert_kept("text", f"'{written}'", sign)
            self.assert_kept("text", f"'{written * 20}'", sign * 20)
        self.assert_kept("text", "''", "")
        for k in range(0, len(signs), 20):
            part = signs[k:k + 20]
            self.assert_kept("text", "'" + part.replace("'", "''") + "'", part)

    def test_line_ends_between_words(self):
        base = make_base(60, "\ncreate\ntable\nt\n(\na\ntext\n)\n", "insert into t\nvalues\n('a\n\nb')\n\n")
        self.assert_rows(base, ("a\n\nb",))
        self.assert_reply(base, "\n select\n *\nfrom t where a =\n'a\n\nb' \n", "ok", 0, [("a\n\nb",)])
        self.assert_reply(base, "select *\nfrom t where a = 'a\nb'", "ok", 0, [])

    def test_somewhat_beyond(self):
        name = "n" * 600
        base = make_base(4200, f"create table {name} (c{name} int, d{name} text)",
                         f"insert into {name} values (1, 'x')")
        self.assertEqual(rows_of(self.reopened(base), name), [(1, "x")])
        self.assert_reply(base, f"select c{name} + {' + '.join(['1'] * 900)} from {name}", "ok", 0, [(901,)])


if __name__ == "__main__":
    unittest.main()
