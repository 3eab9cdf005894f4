"""A disk in memory that keeps for sure only what was synced."""

from ledgerdb.errors import Dead, NoPage

MOST_NUMBERS = 40
LARGEST_NUMBER = 255

FATE_WRITTEN = 1
FATE_SPOILED = 2


def page_takes(row):
    if len(row) > MOST_NUMBERS:
        return False
    return all([0 <= number <= LARGEST_NUMBER for number in row])


def page_behind_cut(sure, written, fate):
    if fate == FATE_WRITTEN:
        return written
    if fate == FATE_SPOILED:
        return None
    return sure


class Disk:
    # Pages are held as tuples, so that a disk and what was cut from it can share them unharmed;
    # a spoiled one is None.
    def __init__(self, pages):
        self.fuel = None
        self.dead = False
        self.done = 0
        self.sure = [() for k in range(pages)]
        self.waiting = {}

    def fill(self, many):
        self.fuel = many

    def size(self):
        return len(self.sure)

    def read(self, k):
        self.check_page(k)
        page = self.waiting.get(k, self.sure[k])
        return None if page is None else list(page)

    def write(self, k, row):
        # What can not be written is told first, for it costs no fuel and so can not find the disk dead.
        self.check_page(k)
        if not page_takes(row):
            raise NoPage("no page takes this row")
        self.spend()
        self.waiting[k] = tuple(row)

    def sync(self):
        self.spend()
        for k in self.waiting:
            self.sure[k] = self.waiting[k]
        self.waiting = {}

    def is_clean(self):
        return len(self.waiting) == 0

    def cut(self, fates):
        behind = Disk(self.size())
        behind.sure = list(self.sure)
        for place, k in enumerate(sorted(self.waiting)):
            if place < len(fates):
                behind.sure[k] = page_behind_cut(self.sure[k], self.waiting[k], fates[place])
        return behind

    def check_page(self, k):
        if not 0 <= k < self.size():
            raise NoPage(f"there is no page {k}")

    def spend(self):
        # Fuel is asked for only here: a disk that has none left dies when it is next needed, not before.
        if self.fuel is not None and self.fuel < 1:
            self.dead = True
        if self.dead:
            raise Dead("the disk is dead")
        if self.fuel is not None:
            self.fuel -= 1
        self.done += 1
