"""Disks of blocks, which keep a log of what was written and where the barriers stood."""

from stillpoint.errors import TooGreat

FEWEST_BLOCKS = 16
MOST_BLOCKS = 256
BLOCK_BYTES = 64


class Disk:
    def __init__(self, count):
        if count < FEWEST_BLOCKS or count > MOST_BLOCKS:
            # The count itself is left out: Python refuses to write very great numbers as texts.
            raise TooGreat("a disk has 16 to 256 blocks")
        self.blocks = [(0,) * BLOCK_BYTES for number in range(count)]
        self.log = []

    def read(self, number):
        return self.blocks[number]

    def write(self, number, block):
        # The block comes first, so that a number that no block has leaves the log as it was.
        self.blocks[number] = block
        self.log.append(("write", number, block))

    def barrier(self):
        self.log.append(("barrier",))


def disk_of(blocks):
    # Not Disk(len(blocks)): only a count that is handed in is refused, never a list of blocks.
    disk = Disk(FEWEST_BLOCKS)
    disk.blocks = list(blocks)
    return disk
