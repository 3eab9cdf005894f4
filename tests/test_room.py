"""Too few pages, and room enough: the last "room" of [4.1], and [4.4]."""

import random
import unittest

from ledgerdb.bases import close, open_base, run
from ledgerdb.disks import Disk
from tests.plain_base import LARGEST, count_of, pages_enough
from tests.trials import make_base, pages_of, rows_of, run_all, tables_of

ROOM = ("room", 0, 0)
LONG = "x" * 20


def fill_up(base, text):
    """Runs it until it is refused, and tells how often it was taken."""
    for many in range(100):
        reply = run(base, text)
        if reply[0] != "ok":
            return many, reply
    raise AssertionError("it was never refused")


def make_texts(tables):
    """The statements that make these tables, a dict from names to (columns, rows of written values)."""
    texts = []
    for name, (columns, rows) in tables.items():
        texts.append(f"create table {name} ({', '.join(columns)})")
        texts += [f"insert into {name} values ({', '.join(row)})" for row in rows]
    return texts


def full(kind, value, tables=4, columns=6, rows=40, long_name=1):
    """Statements that make a state of that many tables, columns and rows; `value` tells one by its place."""
    names = ["n" * (long_name - 1) + "abcdefgh"[k] for k in range(8)]
    written = [[value(row * columns + k) for k in range(columns)] for row in range(rows)]
    named = [f"{names[k]} {kind}" for k in range(columns)]
    return make_texts({names[k]: (named, written) for k in range(tables)})


STATES = {
    "nothing": [],
    "one table": full("int", str, 1, 1, 0),
    "one row": full("text", lambda k: f"'{k}'", 1, 1, 1),
    "four small tables": full("text not null", lambda k: "''", 4, 6, 1),
    "thirty figures": full("int", lambda k: f"{'-' * (k % 2)}{LARGEST - 1 - k}"),
    "twenty signs": full("text", lambda k: f"'{LONG[:17]}{k % 1000:03}'"),
    "quotes": full("text unique", lambda k: f"'{chr(39) * 2 * 17}{k % 1000:03}'", 2, 3),
    "nulls": full("int", lambda k: "null"),
    "empty texts": full("text", lambda k: "''"),
    "small numbers": full("int", lambda k: str(k % 3)),
    "long names": full("int unique", str, 4, 6, 2, 100),
    "long names alone": full("text not null unique", str, 4, 6, 0, 120),
    "one column": full("int", str, 4, 1, 40),
    "one figure more than a digit has": full("int", lambda k: str(256 ** (k % 12)), 3, 5, 33),
}


def tables_behind(texts):
    return tables_of(make_base(4000, "begin", *texts, "commit"))


def become(base, texts):
    """Drops all, makes the new state, and tells how the commit was answered."""
    run_all(base, "begin", *[f"drop table {name}" for name in tables_of(base)], *texts)
    return run(base, "commit")


class RefusedTest(unittest.TestCase):
    def test_a_statement_of_its_own(self):
        for pages in (8, 9, 12, 20):
            base = make_base(pages, "create table t (a text, b text, c text, d text, e text, f text)")
            disk = base.store.disk
            text = "insert into t values (" + ", ".join([f"'{LONG}'"] * 6) + ")"
            many, reply = fill_up(base, text)
            self.assertEqual(reply, ROOM)
            self.assertLess(many, 40)
            before = (pages_of(disk), disk.done, disk.is_clean())
            for again in range(3):
                self.assertEqual(run(base, text), ROOM)
            self.assertEqual(len(rows_of(base, "t")), many)
            self.assertEqual((pages_of(disk), disk.done, disk.is_clean()), before)
            self.assertEqual(tables_of(open_base(disk)), tables_of(base))
            self.assertEqual(run(base, "delete from t"), ("ok", 0, many))
            self.assertEqual(fill_up(base, text), (many, ROOM))

    def test_each_kind_of_statement(self):
        name = "n" * 200
        base = make_base(8, "create table t (a text)", "insert into t values (null)", "insert into t values (null)")
        for text in (f"create table {name} (a int)", f"create table u ({name} int)"):
            self.assertEqual(run(base, text), ROOM)
        run_all(base, "delete from t", *["insert into t values ('')"] * 25)
        self.assertEqual(run(base, f"update t set a = '{LONG}'"), ROOM)
        self.assertEqual(rows_of(base, "t"), [("",)] * 25)
        self.assertEqual(rows_of(open_base(base.store.disk), "t"), [("",)] * 25)

    def test_a_commit_leaves_its_transaction(self):
        base = make_base(8, "create table t (a text)", "insert into t values ('kept')")
        disk = base.store.disk
        kept = tables_of(base)
        run_all(base, "begin", "savepoint s", "insert into t values ('more')", "savepoint q",
                *[f"insert into t values ('{LONG}')"] * 30)
        before = (tables_of(base), pages_of(disk), disk.done, disk.is_clean())
        for again in range(3):
            self.assertEqual(run(base, "commit"), ROOM)
            self.assertEqual((tables_of(base), pages_of(disk), disk.done, disk.is_clean()), before)
        self.assertEqual(run(base, "begin"), ("state", 0, 0))
        self.assertEqual(len(rows_of(base, "t")), 32)
        self.assertEqual(tables_of(open_base(disk)), kept)
        run_all(base, "insert into t values ('and more')")
        self.assertEqual(run(base, "commit"), ROOM)
        run_all(base, "rollback to q")
        self.assertEqual(rows_of(base, "t"), [("kept",), ("more",)])
        run_all(base, "commit")
        self.assertEqual(rows_of(open_base(disk), "t"), [("kept",), ("more",)])

    def test_a_refused_commit_rolled_back(self):
        base = make_base(8, "create table t (a text)", "insert into t values ('kept')")
        disk = base.store.disk
        kept = tables_of(base)
        for turn in range(3):
            run_all(base, "begin", *[f"insert into t values ('{LONG}')"] * 30)
            self.assertEqual(run(base, "commit"), ROOM)
            run_all(base, "rollback")
            self.assertEqual(run(base, "rollback"), ("state", 0, 0))
            self.assertEqual(tables_of(base), kept)
            self.assertEqual(tables_of(open_base(disk)), kept)
            self.assertEqual(tables_of(open_base(disk.cut([]))), kept)
        run_all(base, "begin", "insert into t values ('new')", "commit")
        self.assertEqual(rows_of(open_base(disk), "t"), [("kept",), ("new",)])

    def test_a_refused_commit_closed(self):
        base = make_base(8, "create table t (a text)")
        run_all(base, "begin", *[f"insert into t values ('{LONG}')"] * 30)
        self.assertEqual(run(base, "commit"), ROOM)
        close(base)
        self.assertEqual(rows_of(open_base(base.store.disk), "t"), [])

    def test_within_a_transaction_pages_are_not_asked_for(self):
        base = make_base(8, "begin", *STATES["twenty signs"])
        self.assertEqual(len(rows_of(base, "a")), 40)
        self.assertEqual(run(base, "commit"), ROOM)

    def test_what_is_kept_already_needs_no_pages(self):
        base = make_base(8, "create table t (a text)")
        fill_up(base, f"insert into t values ('{LONG}')")
        many = len(rows_of(base, "t"))
        self.assertEqual(run(base, "update t set a = a"), ("ok", 0, many))
        self.assertEqual(run(base, "delete from t where 0"), ("ok", 0, 0))
        run_all(base, "begin", "insert into t values (null)", "delete from t where a is null", "commit")

    def test_no_fuel_is_spent_where_pages_are_too_few(self):
        base = make_base(8)
        base.store.disk.fill(0)
        self.assertEqual(run(base, f"create table {'n' * 300} (a int)"), ROOM)
        self.assertFalse(base.store.disk.dead)
        self.assertEqual(run(base, "create table t (a int)"), ("dead", 0, 0))


class EnoughTest(unittest.TestCase):
    def test_the_count(self):
        # 30 + 1, then 30 + 1 and 30 + 2, then two rows of 4, four values of 4, 20, 4 + 2 and 4.
        base = make_base(60, "create table t (a int, bb text)", "insert into t values (null, 'xy')",
                         "insert into t values (7, '')")
        self.assertEqual(count_of(tables_of(base)), 31 + 31 + 32 + 8 + 4 + 6 + 20 + 4)
        self.assertEqual(pages_enough({}, {}), 6)
        self.assertEqual(pages_enough({}, tables_of(base)), 6 + 10)
        self.assertEqual(pages_enough(tables_of(base), tables_of(base)), 6 + 10 + 10)

    def test_each_state_from_each_other(self):
        known = {name: tables_behind(texts) for name, texts in STATES.items()}
        for name, texts in STATES.items():
            for other, other_texts in STATES.items():
                pages = max(8, pages_enough({}, known[name]), pages_enough(known[name], known[other]))
                base = make_base(pages)
                self.assertEqual(become(base, texts), ("ok", 0, 0))
                self.assertEqual(become(base, other_texts), ("ok", 0, 0))
                self.assertEqual(tables_of(base), known[other])
                self.assertEqual(tables_of(open_base(base.store.disk)), known[other])

    def test_just_as_many_pages_as_are_told(self):
        # The one that is kept came there on a greater disk, so that the smaller one has no page over.
        known = {name: tables_behind(texts) for name, texts in STATES.items()}
        for name, texts in STATES.items():
            for other, other_texts in STATES.items():
                pages = max(8, pages_enough(known[name], known[other]))
                great = make_base(4000)
                become(great, texts)
                disk = Disk(pages)
                for k in range(pages):
                    disk.write(k, great.store.disk.read(k))
                disk.sync()
                self.assertLess(max(great.store.pages, default=0), pages)
                base = open_base(disk)
                self.assertEqual(become(base, other_texts), ("ok", 0, 0))
                self.assertEqual(tables_of(open_base(disk)), known[other])

    def test_up_and_down_many_times_on_one_disk(self):
        up = ("thirty figures", "twenty signs", "nothing", "one row", "twenty signs", "thirty figures", "one table")
        known = {name: tables_behind(STATES[name]) for name in up}
        most = max(count_of(known[name]) for name in up)
        base = make_base(6 + 2 * -(-most // 15))
        for turn in range(4):
            for name in up:
                self.assertEqual(become(base, STATES[name]), ("ok", 0, 0))
                self.assertEqual(tables_of(open_base(base.store.disk)), known[name])
            if turn % 2:
                base = open_base(base.store.disk.cut([]))

    def test_statements_of_their_own_one_by_one(self):
        texts = full("text", lambda k: f"'{LONG[:17]}{k % 1000:03}'", 2, 6, 40) + ["delete from a where a <> ''"]
        whole = tables_behind(texts[:-1])
        base = make_base(pages_enough(whole, whole))
        for turn in range(2):
            for text in texts + ["drop table a", "drop table b"]:
                before = tables_of(base)
                self.assertEqual(run(base, text)[:2], ("ok", 0), text)
                self.assertGreaterEqual(base.store.disk.size(), pages_enough(before, tables_of(base)))
        self.assertEqual(tables_of(open_base(base.store.disk)), {})

    def test_states_by_chance(self):
        chance = random.Random(3)
        base = make_base(4000)
        for turn in range(60):
            columns = chance.randint(1, 6)
            values = {"int": (lambda k: str(chance.randrange(LARGEST)), lambda k: "null", lambda k: "0"),
                      "text": (lambda k: "'" + "z" * chance.randrange(21) + "'", lambda k: "null")}
            kind = chance.choice(("int", "text"))
            texts = full(kind, chance.choice(values[kind]), chance.randint(1, 4), columns, chance.randint(0, 40),
                         chance.choice((1, 1, 10, 50)))
            kept = base.store.disk.cut([])
            before = tables_of(base)
            self.assertEqual(become(base, texts), ("ok", 0, 0))
            pages = max(8, pages_enough(before, tables_of(base)))
            self.assertLessEqual(len(open_base(kept).store.pages) + len(base.store.pages) + 2, pages)


if __name__ == "__main__":
    unittest.main()
