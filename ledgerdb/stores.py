"""Keeps a state on a disk, and finds it again.

Pages 0 and 1 are heads. A head tells its turn, which rises by one from head to head, and the first page of a
state; each page of a state tells the next one, and 0 stands where there is none. The head with the higher turn
is the one that counts.

A new state is written on pages that the kept one has no use for, and synced; only then the head that does not
count is written anew, and synced. So at any time the kept state and its head stand untouched, and by one page it
is settled whether the new state counts: spoiled or not yet written, that head leaves the other one in its place.
"""

from ledgerdb.codes import read_digits, read_state, write_digits, write_state
from ledgerdb.disks import MOST_NUMBERS
from ledgerdb.errors import Dead, NoBase, NoRoom

FEWEST_PAGES = 8
HEADS = (0, 1)
NO_PAGE = 0

# What a head begins with, so that no other page is taken for one.
HEAD_BEGIN = (76, 101, 100, 103, 101, 114)
TURN_WIDTH = 8
PAGE_WIDTH = 3


class Head:
    def __init__(self, place, turn, first):
        self.place = place
        self.turn = turn
        self.first = first


class Store:
    # The pages and numbers are those of the kept state.
    def __init__(self, disk, head, pages, numbers):
        self.disk = disk
        self.head = head
        self.pages = pages
        self.numbers = numbers
        self.kept = read_state(numbers)


def make_ready(disk):
    check_size(disk)
    put_head(disk, next_head(find_head(disk), NO_PAGE))


def find_store(disk):
    check_size(disk)
    head = find_head(disk)
    if head is None:
        raise NoBase("the disk holds no database")
    pages = []
    numbers = []
    k = head.first
    while k != NO_PAGE:
        row = disk.read(k)
        pages.append(k)
        numbers.extend(row[PAGE_WIDTH:])
        k = read_digits(row[:PAGE_WIDTH])
    return Store(disk, head, pages, numbers)


def keep_state(store, state):
    # A disk that is dead is told ahead of all, also where there is nothing to write.
    if store.disk.dead:
        raise Dead("the disk is dead")
    numbers = write_state(state)
    if numbers != store.numbers:
        put_numbers(store, numbers)
    store.kept = state


def put_numbers(store, numbers):
    parts = split_numbers(numbers)
    pages = choose_pages(store, len(parts))
    head = next_head(store.head, pages[0] if len(pages) > 0 else NO_PAGE)
    put_parts(store.disk, pages, parts)
    put_head(store.disk, head)
    store.head = head
    store.pages = pages
    store.numbers = numbers


def check_size(disk):
    if disk.size() < FEWEST_PAGES:
        raise NoBase("the disk has too few pages")


def find_head(disk):
    heads = [read_head(disk, place) for place in HEADS]
    return max([head for head in heads if head is not None], key=lambda head: head.turn, default=None)


def read_head(disk, place):
    row = disk.read(place)
    begin = list(HEAD_BEGIN)
    behind_turn = len(begin) + TURN_WIDTH
    if row is None or row[:len(begin)] != begin or len(row) != behind_turn + PAGE_WIDTH:
        return None
    return Head(place, read_digits(row[len(begin):behind_turn]), read_digits(row[behind_turn:]))


def next_head(head, first):
    if head is None:
        return Head(HEADS[0], 1, first)
    return Head(HEADS[1 - head.place], head.turn + 1, first)


def put_head(disk, head):
    row = list(HEAD_BEGIN) + write_digits(head.turn, TURN_WIDTH) + write_digits(head.first, PAGE_WIDTH)
    disk.write(head.place, row)
    disk.sync()


def split_numbers(numbers):
    most = MOST_NUMBERS - PAGE_WIDTH
    return [numbers[k:k + most] for k in range(0, len(numbers), most)]


def choose_pages(store, many):
    taken = dict([(k, True) for k in list(HEADS) + store.pages])
    free = [k for k in range(store.disk.size()) if k not in taken]
    if len(free) < many:
        raise NoRoom("the disk has too few pages for the state")
    return free[:many]


def put_parts(disk, pages, parts):
    for k, following, part in zip(pages, pages[1:] + [NO_PAGE], parts):
        disk.write(k, write_digits(following, PAGE_WIDTH) + part)
    disk.sync()
