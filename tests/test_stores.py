"""How a state is kept on a disk and found again: [0.2], [4.2], [4.3], the last "room" of [4.1], [4.4]."""

import random
import unittest

from ledgerdb.disks import Disk
from ledgerdb.errors import Dead, NoBase, NoRoom
from ledgerdb.stores import find_store, keep_state, make_ready
from ledgerdb.tables import Column, Table
from tests.trials import make_disk, mixtures_of_fates, pages_of, waiting_pages


def state_of(rows, name="t"):
    """A state whose size grows with the count of its rows: about 21 numbers for each."""
    columns = [Column("a", "int", True, False), Column("b", "text", False, True)]
    return {name: Table(columns, [(k - 5, "row" + "_" * 14 + str(k % 10)) for k in range(rows)])}


def plain(state):
    return {name: ([(column.name, column.kind, column.not_null, column.unique) for column in table.columns],
                   table.rows) for name, table in state.items()}


def found_on(disk):
    return plain(find_store(disk).kept)


class ReadyTest(unittest.TestCase):
    def test_too_few_pages(self):
        for pages in range(8):
            disk = Disk(pages)
            with self.assertRaises(NoBase):
                make_ready(disk)
            self.assertEqual((disk.done, pages_of(disk)), (0, [[]] * pages))
            with self.assertRaises(NoBase):
                find_store(disk)

    def test_too_few_pages_come_ahead_of_dead(self):
        disk = Disk(7)
        disk.fill(0)
        with self.assertRaises(NoBase):
            make_ready(disk)
        with self.assertRaises(Dead):
            disk.sync()
        with self.assertRaises(NoBase):
            make_ready(disk)

    def test_enough_pages(self):
        for pages in (8, 9, 40, 4000, 4100):
            disk = Disk(pages)
            self.assertIsNone(make_ready(disk))
            self.assertTrue(disk.is_clean())
            self.assertEqual(found_on(disk), {})

    def test_nothing_held(self):
        for pages in (0, 1, 7, 8, 100):
            disk = Disk(pages)
            with self.assertRaises(NoBase):
                find_store(disk)
            self.assertEqual(disk.done, 0)

    def test_dead(self):
        need = make_disk(8).done
        for fuel in range(need):
            disk = Disk(8)
            disk.fill(fuel)
            with self.assertRaises(Dead):
                make_ready(disk)
            self.assertTrue(disk.dead)
        disk = Disk(8)
        disk.fill(need)
        make_ready(disk)
        self.assertEqual(found_on(disk), {})

    def test_made_ready_again(self):
        disk = make_disk(20)
        for turn in range(5):
            for rows in range(turn):
                keep_state(find_store(disk), state_of(rows))
            make_ready(disk)
            self.assertEqual(found_on(disk), {})
            self.assertTrue(disk.is_clean())

    def test_whatever_the_pages_hold(self):
        chance = random.Random(1)
        for turn in range(50):
            disk = Disk(9)
            for k in range(9):
                disk.write(k, [chance.randrange(256) for place in range(chance.randrange(41))])
            disk.sync()
            for k in range(3):
                disk.write(chance.randrange(9), [1, 2])
            disk = disk.cut([2, 2, 2])
            make_ready(disk)
            self.assertEqual(found_on(disk), {})
            keep_state(find_store(disk), state_of(3))
            self.assertEqual(found_on(disk), plain(state_of(3)))

    def test_pages_that_look_almost_like_heads(self):
        head = make_disk(8).read(0)
        for row in ([255] * len(head), head[:-1], head + [0], head[:-1] + [255, 255], [head[0] + 1] + [255] * 16,
                    head[:6], [0] * len(head)):
            for places in ((0,), (1,), (0, 1)):
                disk = Disk(8)
                for k in places:
                    disk.write(k, row)
                disk.sync()
                with self.assertRaises(NoBase):
                    find_store(disk)
                make_ready(disk)
                self.assertEqual(found_on(disk), {})
                keep_state(find_store(disk), state_of(1))
                self.assertEqual(found_on(disk), plain(state_of(1)))

    def test_whatever_stood_behind_on_pages_of_another_database(self):
        other = make_disk(12)
        for rows in (3, 4, 5):
            keep_state(find_store(other), state_of(rows))
        for missing in range(12):
            disk = Disk(12)
            for k in range(12):
                disk.write(k, [] if k == missing else other.read(k))
            disk.sync()
            make_ready(disk)
            self.assertEqual(found_on(disk), {})
            keep_state(find_store(disk), state_of(2))
            self.assertEqual(found_on(disk), plain(state_of(2)))

    def test_a_cut_while_a_disk_that_holds_something_is_made_ready_again(self):
        disk = make_disk(12)
        keep_state(find_store(disk), state_of(4))
        for fuel in range(3):
            trial = disk.cut([])
            trial.fill(fuel)
            try:
                make_ready(trial)
            except Dead:
                self.assertTrue(trial.dead)
            for fates in mixtures_of_fates(random.Random(1), waiting_pages(trial), 100):
                self.assertIn(found_on(trial.cut(fates)), ({}, plain(state_of(4))))


class KeepTest(unittest.TestCase):
    def test_kept_and_found(self):
        disk = make_disk(60)
        store = find_store(disk)
        for rows in (0, 1, 2, 40, 3, 40, 39, 0, 17):
            self.assertIsNone(keep_state(store, state_of(rows)))
            self.assertEqual(plain(store.kept), plain(state_of(rows)))
            self.assertTrue(disk.is_clean())
            done = disk.done
            self.assertEqual(found_on(disk), plain(state_of(rows)))
            self.assertEqual(disk.done, done)
        keep_state(store, {})
        self.assertEqual(found_on(disk), {})

    def test_found_by_each_that_opens_it(self):
        disk = make_disk(60)
        for rows in (0, 1, 2, 40, 3):
            keep_state(find_store(disk), state_of(rows))
            self.assertEqual(found_on(disk), plain(state_of(rows)))
            self.assertEqual(found_on(disk), plain(state_of(rows)))

    def test_the_state_that_is_kept_already_is_not_written_again(self):
        disk = make_disk(8)
        store = find_store(disk)
        keep_state(store, {})
        keep_state(store, state_of(3))
        done = disk.done
        keep_state(store, state_of(3))
        keep_state(find_store(disk), state_of(3))
        self.assertEqual(disk.done, done)

    def test_a_great_disk(self):
        disk = make_disk(4200)
        store = find_store(disk)
        full = {name: state_of(40)["t"] for name in ("t", "u", "v", "w")}
        for turn in range(3):
            for state in (full, state_of(5), {}, state_of(40)):
                keep_state(store, state)
                self.assertEqual(found_on(disk), plain(state))

    def test_pages_that_lie_high(self):
        # The first pages are full, so that the second state lies on pages whose numbers have two digits.
        disk = make_disk(900)
        store = find_store(disk)
        wide = Table([Column("a", "text", False, False)], [("~" * 20,)] * 40)
        states = [{f"{name}{k}": wide for k in range(12)} for name in ("x", "y")]
        for turn in range(3):
            for state in states:
                keep_state(store, state)
                self.assertGreater(len(store.pages), 256)
                self.assertEqual(found_on(disk), plain(state))

    def test_very_many_turns(self):
        disk = make_disk(12)
        store = find_store(disk)
        for turn in range(700):
            keep_state(store, state_of(turn % 4))
            if turn % 50 == 3 or 250 < turn < 260 or 507 < turn < 516:
                self.assertEqual(found_on(disk), plain(state_of(turn % 4)))
                store = find_store(disk)


class NoRoomTest(unittest.TestCase):
    def test_too_few_pages(self):
        disk = make_disk(8)
        store = find_store(disk)
        keep_state(store, state_of(3))
        before, done = pages_of(disk), disk.done
        for state in (state_of(40), {f"t{k}": state_of(9)["t"] for k in range(4)}):
            with self.assertRaises(NoRoom):
                keep_state(store, state)
            self.assertEqual((pages_of(disk), disk.done, disk.is_clean()), (before, done, True))
            self.assertEqual(plain(store.kept), plain(state_of(3)))
        keep_state(store, state_of(2))
        self.assertEqual(found_on(disk), plain(state_of(2)))

    def test_just_enough_and_one_too_few(self):
        big = state_of(40)
        disk = make_disk(200)
        store = find_store(disk)
        keep_state(store, big)
        need = len(store.pages) + 2
        keep_state(find_store(make_disk(need)), big)
        with self.assertRaises(NoRoom):
            keep_state(find_store(make_disk(need - 1)), big)

    def test_the_pages_of_what_is_kept_are_spared(self):
        disk = make_disk(200)
        store = find_store(disk)
        keep_state(store, state_of(40))
        need = len(store.pages) * 2 + 2
        for pages, fits in ((need, True), (need - 1, False)):
            disk = make_disk(pages)
            store = find_store(disk)
            keep_state(store, state_of(40))
            if fits:
                for name in "uvwuvwuvw":
                    keep_state(store, state_of(40, name))
                    self.assertEqual(found_on(disk), plain(state_of(40, name)))
            else:
                with self.assertRaises(NoRoom):
                    keep_state(store, state_of(40, "u"))
                self.assertEqual(found_on(disk), plain(state_of(40)))

    def test_dead_comes_ahead_of_too_few_pages(self):
        disk = make_disk(8)
        store = find_store(disk)
        disk.fill(0)
        with self.assertRaises(NoRoom):
            keep_state(store, state_of(40))
        with self.assertRaises(Dead):
            disk.sync()
        for state in (state_of(40), {}, state_of(1)):
            with self.assertRaises(Dead):
                keep_state(store, state)


class CutTest(unittest.TestCase):
    def keep_with_fuel(self, disk, state, fuel):
        """Tells whether it was kept."""
        store = find_store(disk)
        disk.fill(fuel)
        try:
            keep_state(store, state)
        except Dead:
            return False
        return True

    def test_every_fuel_and_mixture_of_fates(self):
        chance = random.Random(2)
        states = [state_of(rows) for rows in (0, 1, 2, 5, 7)] + [{}, state_of(3, "u")]
        for before in states:
            start = make_disk(30)
            keep_state(find_store(start), before)
            for after in states:
                fuel, kept = 0, False
                while not kept:
                    disk = start.cut([])
                    kept = self.keep_with_fuel(disk, after, fuel)
                    self.assertEqual(disk.dead, not kept)
                    allowed = [plain(after)] if kept else [plain(before), plain(after)]
                    for fates in mixtures_of_fates(chance, waiting_pages(disk), 300):
                        self.assertIn(found_on(disk.cut(fates)), allowed)
                    fuel += 1

    def test_both_ends_can_come(self):
        start = make_disk(30)
        keep_state(find_store(start), state_of(2))
        seen = set()
        for fuel in range(20):
            disk = start.cut([])
            self.keep_with_fuel(disk, state_of(4), fuel)
            for fates in ([0] * 9, [1] * 9, [2] * 9):
                seen.add((disk.dead, len(found_on(disk.cut(fates))["t"][1])))
        self.assertEqual(seen, {(True, 2), (True, 4), (False, 4)})

    def test_cut_upon_cut(self):
        chance = random.Random(3)
        for turn in range(150):
            disk, before = make_disk(14), {}
            for step in range(12):
                after = chance.choice(({}, state_of(chance.randrange(8), chance.choice("tu"))))
                kept = self.keep_with_fuel(disk, after, chance.randrange(10))
                disk = disk.cut([chance.randrange(3) for k in range(14)])
                found = found_on(disk)
                self.assertIn(found, [plain(after)] if kept else [plain(before), plain(after)])
                before = after if found == plain(after) else before


if __name__ == "__main__":
    unittest.main()
