"""Whatever the fuel and the fates: [0.2], [1.2], [4.1] and [4.3] over the whole program.

A trial is a list of statements ahead, and one more that keeps something. For every fuel up to what that one
needs, and for every mixture of fates or very many of them, the disk that is cut opens at the state that was kept
last or at the new one, whole.
"""

import random
import unittest

from ledgerdb.bases import open_base, run
from tests.plain_base import LARGEST
from tests.trials import make_base, mixtures_of_fates, run_all, rows_of, tables_of, waiting_pages

PAGES = 120
SMALL = ("create table t (a int not null unique, b text)", "insert into t values (1, 'x')",
         "insert into t values (-2, null)")
WIDE = ("create table wide_table (a int, b int not null, c text unique, d text not null unique, e int, f text)",
        *[f"insert into wide_table values ({LARGEST - 1 - k}, {k}, '{'w' * 17}{k}', 'it''s\n{k}', null, '')"
          for k in range(7)])
MANY = ("create table m (a int, b int)", *[f"insert into m values ({k}, {k * 1000})" for k in range(40)])

# Statements ahead, and the one that is to be kept.
TRIALS = (
    ((), "create table t (a int)"),
    (SMALL, "insert into t values (3, 'y')"),
    (SMALL, "update t set a = a + 1"),
    (SMALL, "delete from t where a = 1"),
    (SMALL, "delete from t"),
    (SMALL, "drop table t"),
    (SMALL, "create table u (c text unique, d int not null)"),
    (SMALL + ("drop table t",), "create table t (b text)"),
    (SMALL + ("begin", "insert into t values (3, 'y')", "create table u (c int)", "insert into u values (9)"),
     "commit"),
    (SMALL + ("begin", "drop table t", "create table t (a text)", "insert into t values ('new')"), "commit"),
    (SMALL + ("begin", "savepoint s", "drop table t", "rollback to s", "delete from t where a = 1"), "commit"),
    (SMALL + ("begin", *WIDE), "commit"),
    (WIDE, "update wide_table set f = 'x', e = a - 1 where b < 5"),
    (WIDE, "drop table wide_table"),
    (WIDE + SMALL, "insert into t values (3, 'y')"),
    (MANY, "update m set a = 0 - a"),
    (MANY + ("begin", "delete from m where a < 38", *SMALL), "commit"),
)


def prepared(start, ahead):
    """A database that is opened on a twin of the disk, behind the part of a transaction that is not kept."""
    base = open_base(start.cut([]))
    run_all(base, *ahead)
    return base


def part_at_begin(texts):
    where = texts.index("begin") if "begin" in texts else len(texts)
    return texts[:where], texts[where:]


class CutsCase(unittest.TestCase):
    def assert_whole(self, disk, states, fates):
        """Opens the disk behind a cut, and tells which of the states it is at."""
        base = open_base(disk.cut(fates))
        told = tables_of(base)
        self.assertIn(told, states)
        self.assertIsNone(base.marks)
        for name in told:
            self.assertEqual(rows_of(base, name), told[name][1])
        return told

    def need_of(self, start, ahead, text):
        base = prepared(start, ahead)
        disk = base.store.disk
        done = disk.done
        run_all(base, text)
        return disk.done - done, tables_of(base)


class EveryFuelTest(CutsCase):
    def test_trials(self):
        chance = random.Random(5)
        for texts, last in TRIALS:
            kept, ahead = part_at_begin(texts)
            start = make_base(PAGES, *kept).store.disk
            before = tables_of(open_base(start))
            need, after = self.need_of(start, ahead, last)
            self.assertNotEqual(before, after)
            for fuel in range(need + 1):
                base = prepared(start, ahead)
                disk = base.store.disk
                disk.fill(fuel)
                reply = run(base, last)
                self.assertEqual(reply[0] == "dead", fuel < need)
                self.assertEqual(disk.dead, fuel < need)
                if fuel < need:
                    self.assertEqual(reply, ("dead", 0, 0))
                    self.assertEqual(run(base, "select * from t"), ("dead", 0, 0))
                else:
                    self.assertTrue(disk.is_clean())
                states = [before, after] if fuel < need else [after]
                for fates in mixtures_of_fates(chance, waiting_pages(disk), 130):
                    self.assert_whole(disk, states, fates)

    def test_both_states_can_be_found(self):
        kept, ahead = part_at_begin(TRIALS[8][0])
        start = make_base(PAGES, *kept).store.disk
        before = tables_of(open_base(start))
        need, after = self.need_of(start, ahead, "commit")
        base = prepared(start, ahead)
        base.store.disk.fill(need - 1)
        run(base, "commit")
        found = [self.assert_whole(base.store.disk, [before, after], [fate] * 9) for fate in (0, 1, 2)]
        self.assertEqual(found, [before, after, before])

    def test_nothing_is_lost_that_was_ok_when_the_next_one_dies(self):
        chance = random.Random(8)
        texts = [*SMALL, "update t set b = 'q'", "begin", "insert into t values (7, 'seven')", "commit",
                 "create table u (c int)", "insert into u values (1)", "delete from t where a = 1", "drop table t"]
        whole = make_base(PAGES, *texts)
        for fuel in range(whole.store.disk.done - make_base(PAGES).store.disk.done):
            base = make_base(PAGES)
            disk = base.store.disk
            disk.fill(fuel)
            sure = tables_of(base)
            for text in texts:
                told = run(base, text)[0]
                if told == "dead":
                    break
                if base.marks is None:
                    sure = tables_of(base)
            self.assertEqual(told, "dead")
            twin = open_base(disk.cut([]))
            self.assertEqual(tables_of(twin), sure)
            ahead = texts[texts.index("begin"):texts.index("commit")] if text == "commit" else []
            run_all(twin, *ahead, text)
            for fates in mixtures_of_fates(chance, waiting_pages(disk), 30):
                self.assert_whole(disk, [sure, tables_of(twin)], fates)


class OnceMoreTest(CutsCase):
    """The same once more on the disk that is there behind a cut, and once more on that one."""

    FIRST = "update t set a = a + 10, b = 'first time'"
    SECOND = ("begin", "insert into t values (5, 'second')", "create table u (c int)", "insert into u values (1)")
    THIRD = "insert into t values (100, 'third')"

    def cut_disks(self, base, text, chance, most):
        """All disks that are there when that statement dies with each fuel, behind cuts."""
        start = base.store.disk.cut([])
        ahead = self.SECOND if text == "commit" else ()
        before = tables_of(open_base(start))
        need, after = self.need_of(start, ahead, text)
        for fuel in range(need):
            dying = prepared(start, ahead)
            disk = dying.store.disk
            disk.fill(fuel)
            self.assertEqual(run(dying, text)[0], "dead")
            for fates in mixtures_of_fates(chance, waiting_pages(disk), most):
                self.assert_whole(disk, [before, after], fates)
                yield disk.cut(fates)

    def test_three_cuts(self):
        chance = random.Random(6)
        seen = 0
        for once in self.cut_disks(make_base(PAGES, *SMALL), self.FIRST, chance, 30):
            for twice in self.cut_disks(open_base(once), "commit", chance, 12):
                for thrice in self.cut_disks(open_base(twice), self.THIRD, chance, 4):
                    seen += 1
                base = open_base(thrice)
                run_all(base, "delete from t", "create table w (a int)", "insert into w values (1)")
                self.assertEqual(tables_of(open_base(thrice)), tables_of(base))
        self.assertGreater(seen, 1000)


class SmallDisksTest(CutsCase):
    def test_cuts_on_8_pages(self):
        # So few pages that each is written over and over.
        chance = random.Random(7)
        for turn in range(60):
            base = make_base(8, "create table t (a int unique)")
            for step in range(25):
                before = tables_of(base)
                text = chance.choice((f"insert into t values ({chance.randrange(10 ** 9)})",) * 3
                                     + ("delete from t where a > 500000000", "update t set a = a * 3"))
                twin = open_base(base.store.disk.cut([]))
                run(twin, text)
                disk = base.store.disk
                disk.fill(chance.randrange(8))
                reply = run(base, text)
                states = [before, tables_of(twin)] if reply[0] == "dead" else [tables_of(twin)]
                fates = [chance.randrange(3) for k in range(8)]
                self.assert_whole(disk, states, fates)
                base = open_base(disk.cut(fates))


if __name__ == "__main__":
    unittest.main()
