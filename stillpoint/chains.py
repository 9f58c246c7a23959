"""Rows of bytes on a disk, each in a chain of blocks.

A block of a chain holds the number of the next one and 63 bytes of the row. A chain that a
sync left is never written over, so equal rows share one, whatever states they stand in.
"""

from stillpoint.disk import MOST_BLOCKS
from stillpoint.errors import NoFiles, NoRoom

# The two blocks ahead of it are heads, so that 0 is free to say that no block follows.
FIRST_BLOCK = 2
NO_BLOCK = 0
ROW_BYTES = 63


def block_count(disk):
    # The number of a block is kept as one byte.
    return min(len(disk.blocks), MOST_BLOCKS)


def blocks_for(length):
    return (length + ROW_BYTES - 1) // ROW_BYTES


def free_numbers(count, places):
    used = {}
    for numbers in places.values():
        for number in numbers:
            used[number] = True
    return [number for number in range(FIRST_BLOCK, count) if number not in used]


class Chains:
    def __init__(self, free, older):
        # older: the chains of the last sync, by their rows; places: those of the one to come.
        self.free = free
        self.older = older
        self.places = {}

    def put(self, row):
        if len(row) == 0:
            return NO_BLOCK
        if row not in self.places:
            self.places[row] = self.older[row] if row in self.older else self.take(blocks_for(len(row)))
        return self.places[row][0]

    def take(self, many):
        if many > len(self.free):
            raise NoRoom("the disk has too few blocks")
        taken = self.free[:many]
        self.free = self.free[many:]
        return tuple(taken)


def chain_blocks(row, numbers):
    blocks = []
    for place, following in enumerate(numbers[1:] + (NO_BLOCK,)):
        part = row[place * ROW_BYTES:(place + 1) * ROW_BYTES]
        blocks.append((following,) + part + (0,) * (ROW_BYTES - len(part)))
    return blocks


class Reader:
    def __init__(self, disk):
        self.disk = disk
        self.places = {}

    def row_at(self, head, length):
        numbers = []
        row = ()
        following = head
        while len(row) < length:
            block = self.block_at(following)
            numbers.append(following)
            row = row + block[1:]
            following = block[0]
        row = row[:length]
        if length > 0:
            self.places[row] = tuple(numbers)
        return row

    def block_at(self, number):
        if number < FIRST_BLOCK or number >= block_count(self.disk) or self.disk.read(number) is None:
            raise NoFiles("a block of a chain can't be read")
        return self.disk.read(number)
