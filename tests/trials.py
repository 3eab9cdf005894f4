"""What the tests of databases on disks have in common."""

import itertools

from ledgerdb.bases import format_disk, open_base, run
from ledgerdb.disks import Disk


def make_disk(pages):
    disk = Disk(pages)
    format_disk(disk)
    return disk


def make_base(pages, *texts):
    """A new database on a disk of its own, behind statements that all must be taken."""
    base = open_base(make_disk(pages))
    run_all(base, *texts)
    return base


def run_all(base, *texts):
    for text in texts:
        reply = run(base, text)
        if reply[:2] != ("ok", 0):
            raise AssertionError((text, reply))


def rows_of(base, name):
    reply = run(base, f"select * from {name}")
    if reply[:2] != ("ok", 0):
        raise AssertionError((name, reply))
    return reply[2]


def tables_of(base):
    """All that a database holds as its statements see it: a dict from names to (columns, rows)."""
    return {name: ([(column.name, column.kind, column.not_null, column.unique) for column in table.columns],
                   list(table.rows)) for name, table in base.state.items()}


def pages_of(disk):
    return [disk.read(k) for k in range(disk.size())]


def waiting_pages(disk):
    """How many pages wait for a sync: so many fates a cut looks at."""
    spoiled = disk.cut([2] * disk.size())
    return sum(disk.read(k) is not None and spoiled.read(k) is None for k in range(disk.size()))


def mixtures_of_fates(chance, waiting, most):
    """Every mixture, or, where these are more than `most`, some of them: the plain ones and others by chance."""
    if 3 ** waiting <= most:
        return [list(fates) for fates in itertools.product((0, 1, 2), repeat=waiting)]
    plain = [[fate] * waiting for fate in (0, 1, 2)]
    # The first page that waits and the last one may be a head: each fate of one beside each fate of the rest.
    for k in (0, waiting - 1):
        for one, rest in itertools.permutations((0, 1, 2), 2):
            plain.append([one if place == k else rest for place in range(waiting)])
    return plain + [[chance.randrange(3) for place in range(waiting)] for k in range(most - len(plain))]
