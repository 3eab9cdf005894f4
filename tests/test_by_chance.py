"""Statements by chance, fuel and cuts among them, against plain lists of rows: [0.2], and with it all the rest."""

import collections
import random
import unittest

from ledgerdb.bases import close, format_disk, open_base, run
from ledgerdb.disks import Disk
from tests.plain_base import Chance, PlainBase, pages_enough
from tests.trials import tables_of


class Beside:
    """A database and the plain one beside it."""

    def __init__(self, case, seed, pages, wrong=12):
        self.case = case
        self.chance = random.Random(seed)
        self.statements = Chance(self.chance, wrong)
        self.seen = collections.Counter()
        self.disk = Disk(pages)
        format_disk(self.disk)
        self.base = open_base(self.disk)
        self.plain = PlainBase()

    def step(self):
        said = self.statements.statement(self.plain)
        text = said.text(self.chance)
        keeps = self.plain.keeps(said)
        new, expected = self.plain.behind(said)
        done = self.disk.done
        reply = run(self.base, text)
        self.seen[said.kind, reply[0]] += 1
        if keeps and expected[0] == "ok" and reply[0] in ("dead", "room"):
            self.refused_by_the_disk(text, reply, new)
        else:
            self.case.assertEqual(reply, expected, text)
            self.plain = new
        if reply[0] != "dead":
            self.case.assertTrue(self.disk.is_clean())
            self.case.assertEqual(tables_of(self.base), self.plain.tables, text)
            if not keeps or reply[0] != "ok":
                self.case.assertEqual(self.disk.done, done, text)

    def refused_by_the_disk(self, text, reply, new):
        self.case.assertEqual(reply[1:], (0, 0))
        if reply[0] == "room":
            self.case.assertLess(self.disk.size(), pages_enough(self.plain.kept, new.kept), text)
            return
        self.case.assertTrue(self.disk.dead)
        self.case.assertEqual(run(self.base, "select * from t"), ("dead", 0, 0))
        self.cut([self.plain.kept, new.kept])

    def cut(self, allowed):
        self.disk = self.disk.cut([self.chance.randrange(3) for k in range(self.disk.size())])
        self.base = open_base(self.disk)
        self.case.assertIn(tables_of(self.base), allowed)
        self.plain = PlainBase()
        self.plain.tables = tables_of(self.base)
        self.plain.kept = tables_of(self.base)

    def open_again(self):
        self.case.assertEqual(tables_of(open_base(self.disk)), self.plain.kept)
        how = self.chance.randrange(3)
        if how == 0:
            close(self.base)
            self.case.assertEqual(run(self.base, "select * from t"), ("dead", 0, 0))
        if how < 2:
            self.cut([self.plain.kept])


class ByChanceTest(unittest.TestCase):
    def play(self, seeds, pages, steps, fuel, wrong=12):
        """`fuel` tells one in how many steps begins with little fuel; 0 for none."""
        seen = collections.Counter()
        for seed in seeds:
            beside = Beside(self, seed, pages, wrong)
            for k in range(steps):
                if fuel and beside.chance.randrange(fuel) == 0:
                    beside.disk.fill(beside.chance.randrange(14))
                beside.step()
                if beside.chance.randrange(25) == 0:
                    beside.open_again()
            seen += beside.seen
        return seen

    def test_with_pages_and_fuel_enough(self):
        seen = self.play(range(25), 3100, 120, 0)
        for kind in ("create", "drop", "insert", "update", "delete", "select", "begin", "commit", "rollback",
                     "rollback to", "savepoint"):
            self.assertGreater(seen[kind, "ok"], 10, kind)
        for code in ("state", "name", "exists", "room", "constraint"):
            self.assertGreater(sum(many for (kind, told), many in seen.items() if told == code), 20, code)

    def test_with_many_wrong_names(self):
        seen = self.play(range(100, 112), 3100, 120, 0, wrong=3)
        self.assertGreater(seen["update", "exists"] + seen["create", "exists"], 50)

    def test_with_little_fuel(self):
        seen = self.play(range(200, 230), 400, 120, 3)
        self.assertGreater(seen["commit", "dead"], 20)
        self.assertGreater(seen["insert", "dead"], 100)

    def test_with_few_pages(self):
        seen = self.play(range(300, 320), 8, 100, 0)
        self.assertGreater(seen["insert", "room"] + seen["update", "room"] + seen["create", "room"], 30)
        self.assertGreater(seen["commit", "room"], 5)

    def test_with_few_pages_and_little_fuel(self):
        for pages in (8, 10, 14, 25, 60):
            seen = self.play(range(400, 405), pages, 100, 3)
            self.assertGreater(sum(many for (kind, told), many in seen.items() if told == "dead"), 10)


if __name__ == "__main__":
    unittest.main()
