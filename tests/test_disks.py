"""Promises [1.1] and [1.2], and what [0.1] says of lists: the disk."""

import copy
import itertools
import unittest

from ledgerdb.disks import Disk
from ledgerdb.errors import Dead, NoPage


def pages_of(disk):
    return [disk.read(k) for k in range(disk.size())]


def told_of(disk):
    return pages_of(disk), disk.size(), disk.fuel, disk.dead, disk.done, disk.is_clean()


def spoiled_disk(pages, spoiled):
    disk = Disk(pages)
    disk.write(spoiled, [1])
    return disk.cut([2])


class PagesTest(unittest.TestCase):
    def test_a_new_disk(self):
        for pages in (0, 1, 2, 8, 4000):
            disk = Disk(pages)
            self.assertEqual(told_of(disk), ([[]] * pages, pages, None, False, 0, True))
            self.assertIs(disk.dead, False)
            self.assertIs(disk.is_clean(), True)
            self.assertIsNone(disk.fuel)

    def test_more_pages_than_told_are_not_refused(self):
        self.assertEqual(Disk(4001).size(), 4001)

    def test_what_is_written_is_read_at_once(self):
        disk = Disk(3)
        self.assertIsNone(disk.write(1, [7, 8, 9]))
        self.assertEqual(pages_of(disk), [[], [7, 8, 9], []])

    def test_what_is_read_is_what_was_written_last(self):
        disk = Disk(2)
        disk.write(0, [1])
        disk.write(0, [2, 3])
        self.assertEqual(disk.read(0), [2, 3])
        disk.sync()
        self.assertEqual(disk.read(0), [2, 3])
        disk.write(0, [])
        self.assertEqual(disk.read(0), [])
        disk.sync()
        self.assertEqual(pages_of(disk), [[], []])

    def test_the_last_page_of_a_large_disk(self):
        disk = Disk(4000)
        disk.write(3999, [5])
        disk.sync()
        self.assertEqual(disk.read(3999), [5])
        self.assertEqual(disk.read(3998), [])

    def test_rows_up_to_forty_numbers(self):
        disk = Disk(1)
        for length in (0, 1, 39, 40):
            row = [200 - k for k in range(length)]
            disk.write(0, row)
            self.assertEqual(disk.read(0), row)

    def test_rows_beyond_forty_numbers(self):
        disk = Disk(1)
        disk.write(0, [4])
        for length in (41, 42, 100):
            with self.assertRaises(NoPage):
                disk.write(0, [0] * length)
        self.assertEqual(disk.read(0), [4])

    def test_numbers_that_a_page_takes(self):
        disk = Disk(1)
        for row in ([0], [255], [0, 255, 1, 254]):
            disk.write(0, row)
            self.assertEqual(disk.read(0), row)

    def test_numbers_that_no_page_takes(self):
        disk = Disk(1)
        disk.write(0, [4])
        for number in (-1, 256, -255, 10 ** 30, -10 ** 30):
            for row in ([number], [1, 2, number], [number, 1, 2], [1] * 39 + [number]):
                with self.assertRaises(NoPage):
                    disk.write(0, row)
        self.assertEqual(disk.read(0), [4])

    def test_pages_that_are_not_there(self):
        for pages in (0, 1, 3):
            disk = Disk(pages)
            for k in (-1, -2, -pages - 1, pages, pages + 1, 10 ** 30, -10 ** 30):
                with self.assertRaises(NoPage):
                    disk.read(k)
                with self.assertRaises(NoPage):
                    disk.write(k, [1])
            self.assertEqual(told_of(disk), ([[]] * pages, pages, None, False, 0, True))

    def test_a_refused_write_costs_nothing_and_does_nothing(self):
        disk = Disk(2)
        disk.fill(3)
        for k, row in ((2, [1]), (-1, [1]), (0, [256]), (0, [-1]), (0, [0] * 41)):
            with self.assertRaises(NoPage):
                disk.write(k, row)
        self.assertEqual(told_of(disk), ([[], []], 2, 3, False, 0, True))


class ListsTest(unittest.TestCase):
    def test_changing_what_was_read_changes_no_page(self):
        disk = Disk(1)
        disk.write(0, [1, 2])
        for synced in (False, True):
            if synced:
                disk.sync()
            told = disk.read(0)
            told.append(3)
            told[0] = 9
            self.assertEqual(disk.read(0), [1, 2])
            self.assertIsNot(disk.read(0), disk.read(0))

    def test_changing_what_was_read_of_an_empty_page_changes_no_page(self):
        disk = Disk(2)
        disk.read(0).append(1)
        self.assertEqual(pages_of(disk), [[], []])

    def test_a_page_is_read_as_a_list(self):
        disk = Disk(2)
        disk.write(1, [1])
        for page in pages_of(disk) + pages_of(disk.cut([1])):
            self.assertIs(type(page), list)

    def test_the_list_handed_in_is_neither_changed_nor_kept(self):
        disk = Disk(1)
        row = [1, 2]
        disk.write(0, row)
        row.append(3)
        self.assertEqual(disk.read(0), [1, 2])
        disk.sync()
        row[0] = 9
        self.assertEqual(disk.read(0), [1, 2])
        self.assertEqual(row, [9, 2, 3])

    def test_the_fates_handed_in_are_neither_changed_nor_kept(self):
        disk = Disk(2)
        disk.write(0, [1])
        disk.write(1, [2])
        fates = [1, 2, 0, 1]
        new = disk.cut(fates)
        self.assertEqual(fates, [1, 2, 0, 1])
        fates[0] = 0
        self.assertEqual(pages_of(new), [[1], None])


class FuelTest(unittest.TestCase):
    def test_without_fuel_told_nothing_is_counted_down(self):
        disk = Disk(1)
        for k in range(100):
            disk.write(0, [k])
            disk.sync()
        self.assertIsNone(disk.fuel)
        self.assertEqual(disk.done, 200)
        self.assertFalse(disk.dead)

    def test_a_write_and_a_sync_cost_one_each(self):
        disk = Disk(2)
        self.assertIsNone(disk.fill(5))
        self.assertEqual(disk.fuel, 5)
        disk.write(0, [1])
        self.assertEqual((disk.fuel, disk.done), (4, 1))
        self.assertIsNone(disk.sync())
        self.assertEqual((disk.fuel, disk.done), (3, 2))
        disk.sync()
        self.assertEqual((disk.fuel, disk.done), (2, 3))
        disk.write(0, [1])
        self.assertEqual((disk.fuel, disk.done), (1, 4))

    def test_nothing_else_costs_fuel(self):
        disk = Disk(2)
        disk.fill(1)
        disk.write(0, [1])
        pages_of(disk)
        disk.size()
        disk.is_clean()
        disk.cut([1])
        self.assertEqual((disk.fuel, disk.done, disk.dead), (0, 1, False))

    def test_the_last_unit_still_works(self):
        disk = Disk(1)
        disk.fill(1)
        disk.write(0, [1])
        self.assertEqual(told_of(disk), ([[1]], 1, 0, False, 1, False))
        disk = Disk(1)
        disk.write(0, [1])
        disk.fill(1)
        disk.sync()
        self.assertEqual(told_of(disk), ([[1]], 1, 0, False, 2, True))

    def test_fuel_none_again(self):
        disk = Disk(1)
        disk.fill(0)
        disk.fill(None)
        disk.write(0, [1])
        disk.sync()
        self.assertEqual(told_of(disk), ([[1]], 1, None, False, 2, True))

    def test_fill_sets_and_does_not_add(self):
        disk = Disk(1)
        disk.fill(5)
        disk.fill(2)
        self.assertEqual(disk.fuel, 2)
        disk.fill(0)
        self.assertEqual((disk.fuel, disk.dead), (0, False))
        disk.fill(1)
        disk.write(0, [3])
        self.assertEqual(disk.read(0), [3])

    def test_a_write_without_fuel(self):
        disk = Disk(2)
        disk.write(0, [1])
        disk.fill(0)
        with self.assertRaises(Dead):
            disk.write(1, [2])
        self.assertEqual(told_of(disk), ([[1], []], 2, 0, True, 1, False))
        self.assertIs(disk.dead, True)
        self.assertEqual(pages_of(disk.cut([1, 1])), [[1], []])

    def test_a_sync_without_fuel(self):
        disk = Disk(2)
        disk.write(0, [1])
        disk.fill(0)
        with self.assertRaises(Dead):
            disk.sync()
        self.assertEqual(told_of(disk), ([[1], []], 2, 0, True, 1, False))
        self.assertEqual(pages_of(disk.cut([])), [[], []])

    def test_a_clean_disk_dies_of_a_sync(self):
        disk = Disk(1)
        disk.fill(0)
        with self.assertRaises(Dead):
            disk.sync()
        self.assertEqual(told_of(disk), ([[]], 1, 0, True, 0, True))

    def test_dead_it_stays(self):
        for many in (0, 1, 100, None):
            disk = Disk(2)
            disk.write(0, [1])
            disk.fill(0)
            with self.assertRaises(Dead):
                disk.sync()
            disk.fill(many)
            for again in range(3):
                with self.assertRaises(Dead):
                    disk.write(1, [2])
                with self.assertRaises(Dead):
                    disk.sync()
            self.assertEqual(told_of(disk), ([[1], []], 2, many, True, 1, False))

    def test_no_page_comes_ahead_of_dead(self):
        disk = Disk(1)
        disk.fill(0)
        wrong = ((1, [1]), (-1, [1]), (0, [0] * 41), (0, [256]), (0, [-1]))
        for k, row in wrong:
            with self.assertRaises(NoPage):
                disk.write(k, row)
        self.assertFalse(disk.dead)
        with self.assertRaises(Dead):
            disk.write(0, [1])
        for k, row in wrong:
            with self.assertRaises(NoPage):
                disk.write(k, row)
        self.assertTrue(disk.dead)

    def test_a_dead_disk_still_refuses_to_read_what_is_not_there(self):
        disk = Disk(1)
        disk.fill(0)
        with self.assertRaises(Dead):
            disk.sync()
        for k in (-1, 1, 2):
            with self.assertRaises(NoPage):
                disk.read(k)

    def test_each_sum_of_fuel_stops_at_its_place(self):
        for many in range(7):
            disk = Disk(3)
            disk.fill(many)
            try:
                for k in range(3):
                    disk.write(k, [k + 1])
                    disk.sync()
            except Dead:
                self.assertTrue(disk.dead)
            self.assertEqual(disk.dead, many < 6)
            self.assertEqual(disk.done, many)
            self.assertEqual(disk.is_clean(), many % 2 == 0)
            wrote = (many + 1) // 2
            self.assertEqual(pages_of(disk), [[k + 1] if k < wrote else [] for k in range(3)])
            synced = many // 2
            self.assertEqual(pages_of(disk.cut([])), [[k + 1] if k < synced else [] for k in range(3)])


class CleanTest(unittest.TestCase):
    def test_clean_until_written_and_behind_a_sync(self):
        disk = Disk(2)
        disk.sync()
        self.assertIs(disk.is_clean(), True)
        disk.write(1, [1])
        self.assertIs(disk.is_clean(), False)
        disk.sync()
        self.assertIs(disk.is_clean(), True)

    def test_the_same_row_again_waits_too(self):
        disk = Disk(1)
        disk.write(0, [])
        self.assertFalse(disk.is_clean())
        disk.sync()
        disk.write(0, [])
        self.assertFalse(disk.is_clean())


class CutTest(unittest.TestCase):
    def setUp(self):
        self.disk = Disk(5)
        for k in range(5):
            self.disk.write(k, [k, 0])
        self.disk.sync()
        # Not in rising order: the fates are, whatever the order of the writes was.
        for k in (4, 1, 2):
            self.disk.write(k, [k, 1])

    def test_each_set_of_fates(self):
        for fates in itertools.product((0, 1, 2), repeat=3):
            expected = [[k, 0] for k in range(5)]
            for k, fate in zip((1, 2, 4), fates):
                expected[k] = ([k, 0], [k, 1], None)[fate]
            self.assertEqual(pages_of(self.disk.cut(list(fates))), expected)

    def test_a_fate_that_lacks_is_0(self):
        self.assertEqual(pages_of(self.disk.cut([])), [[k, 0] for k in range(5)])
        self.assertEqual(pages_of(self.disk.cut([1])), [[0, 0], [1, 1], [2, 0], [3, 0], [4, 0]])
        self.assertEqual(pages_of(self.disk.cut([0, 2])), [[0, 0], [1, 0], None, [3, 0], [4, 0]])

    def test_fates_that_are_over_are_not_looked_at(self):
        self.assertEqual(pages_of(self.disk.cut([1, 2, 1, 2, 2, 1, 77, -5])),
                         [[0, 0], [1, 1], None, [3, 0], [4, 1]])

    def test_nothing_written(self):
        disk = Disk(2)
        self.assertEqual(pages_of(disk.cut([2, 2])), [[], []])
        disk.write(0, [1])
        disk.sync()
        self.assertEqual(pages_of(disk.cut([2, 2])), [[1], []])
        self.assertEqual(pages_of(Disk(0).cut([1, 2])), [])

    def test_a_page_written_twice_has_one_fate(self):
        disk = Disk(2)
        disk.write(0, [1])
        disk.sync()
        disk.write(0, [2])
        disk.write(0, [3])
        disk.write(1, [4])
        self.assertEqual(pages_of(disk.cut([0, 1])), [[1], [4]])
        self.assertEqual(pages_of(disk.cut([1, 0])), [[3], []])
        self.assertEqual(pages_of(disk.cut([2, 1])), [None, [4]])

    def test_a_page_written_as_it_was_can_be_spoiled(self):
        disk = Disk(1)
        disk.write(0, [])
        self.assertEqual(pages_of(disk.cut([2])), [None])

    def test_a_spoiled_page_is_read_as_none(self):
        disk = spoiled_disk(3, 1)
        self.assertEqual(pages_of(disk), [[], None, []])
        self.assertTrue(disk.is_clean())
        disk.sync()
        self.assertEqual(pages_of(disk), [[], None, []])

    def test_a_spoiled_page_that_is_not_written_stays_spoiled(self):
        disk = spoiled_disk(3, 1)
        disk.write(0, [5])
        self.assertEqual(pages_of(disk.cut([1, 1])), [[5], None, []])

    def test_a_spoiled_page_that_is_written(self):
        disk = spoiled_disk(3, 1)
        disk.write(1, [6])
        self.assertEqual(pages_of(disk), [[], [6], []])
        self.assertEqual(pages_of(disk.cut([0])), [[], None, []])
        self.assertEqual(pages_of(disk.cut([1])), [[], [6], []])
        self.assertEqual(pages_of(disk.cut([2])), [[], None, []])
        disk.sync()
        self.assertEqual(pages_of(disk.cut([0])), [[], [6], []])

    def test_the_sync_that_counts_is_the_last(self):
        self.disk.sync()
        self.disk.write(3, [3, 3])
        self.assertEqual(pages_of(self.disk.cut([])), [[0, 0], [1, 1], [2, 1], [3, 0], [4, 1]])

    def test_what_the_new_disk_tells(self):
        self.disk.fill(9)
        new = self.disk.cut([1, 0, 2])
        self.assertIsInstance(new, Disk)
        self.assertIsNot(new, self.disk)
        self.assertEqual(told_of(new), ([[0, 0], [1, 1], [2, 0], [3, 0], None], 5, None, False, 0, True))

    def test_a_clean_disk_gives_a_new_one_too(self):
        disk = Disk(1)
        new = disk.cut([])
        new.write(0, [1])
        self.assertEqual(told_of(disk), ([[]], 1, None, False, 0, True))
        self.assertEqual(told_of(new), ([[1]], 1, None, False, 1, False))

    def test_the_old_disk_stays_as_it_is(self):
        self.disk.fill(9)
        before = told_of(self.disk)
        for fates in ([], [1, 1, 1], [2, 2, 2]):
            self.disk.cut(fates)
            self.assertEqual(told_of(self.disk), before)
        self.assertEqual(pages_of(self.disk.cut([0, 0, 0])), [[k, 0] for k in range(5)])
        self.disk.sync()
        self.assertEqual(told_of(self.disk), (before[0], 5, 8, False, before[4] + 1, True))

    def test_neither_disks_later_writes_show_in_the_other(self):
        for fates in ([0, 0, 0], [1, 1, 1], [2, 2, 2]):
            old = copy.deepcopy(self.disk)
            new = old.cut(fates)
            old_pages = pages_of(old)
            for k in range(5):
                new.write(k, [100])
            self.assertEqual(pages_of(old), old_pages)
            new.sync()
            self.assertEqual(pages_of(old), old_pages)
            self.assertFalse(old.is_clean())
            for k in range(5):
                old.write(k, [200])
            old.sync()
            self.assertEqual(pages_of(new), [[100]] * 5)
            self.assertEqual(pages_of(new.cut([])), [[100]] * 5)

    def test_a_cut_of_a_dead_disk(self):
        self.disk.fill(0)
        with self.assertRaises(Dead):
            self.disk.sync()
        new = self.disk.cut([1, 2])
        self.assertEqual(told_of(new), ([[0, 0], [1, 1], None, [3, 0], [4, 0]], 5, None, False, 0, True))
        new.write(2, [7])
        new.sync()
        self.assertEqual(new.read(2), [7])
        self.assertTrue(self.disk.dead)
        with self.assertRaises(Dead):
            self.disk.write(0, [1])

    def test_a_cut_of_a_cut(self):
        once = self.disk.cut([1, 2, 0])
        self.assertEqual(pages_of(once.cut([2, 2, 2])), pages_of(once))


class EveryShortStoryTest(unittest.TestCase):
    """All stories of four steps on two pages, beside a model that keeps each whole disk it ever was."""

    STEPS = ("write 0", "write 1", "sync", "cut 0", "cut 1", "cut 2 1", "fill 0", "fill 1")

    def play(self, story):
        disk = Disk(2)
        sure, now, touched, fuel, dead = [[], []], [[], []], set(), None, False
        for number, step in enumerate(story):
            verb, *rest = step.split()
            rest = [int(figure) for figure in rest]
            if verb == "fill":
                disk.fill(rest[0])
                fuel = rest[0]
            elif verb == "cut":
                disk = disk.cut(rest)
                fates = dict(zip(sorted(touched), rest))
                sure = [{0: sure[k], 1: now[k], 2: None}[fates.get(k, 0)] for k in range(2)]
                now, touched, fuel, dead = list(sure), set(), None, False
            else:
                dead = dead or fuel == 0
                try:
                    disk.sync() if verb == "sync" else disk.write(rest[0], [number + 1])
                    self.assertFalse(dead)
                except Dead:
                    self.assertTrue(dead)
                if not dead:
                    fuel = None if fuel is None else fuel - 1
                    if verb == "sync":
                        sure, touched = list(now), set()
                    else:
                        now[rest[0]] = [number + 1]
                        touched.add(rest[0])
            told = (pages_of(disk), disk.fuel, disk.dead, disk.is_clean())
            self.assertEqual(told, (now, fuel, dead, not touched), story)

    def test_stories(self):
        for story in itertools.product(self.STEPS, repeat=4):
            self.play(story)


if __name__ == "__main__":
    unittest.main()
