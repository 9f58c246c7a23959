"""Stores: how images come on a disk and are found there again.

Blocks 0 and 1 are heads. A sync writes the chains that are new into blocks that the last one
left free, then, behind a barrier, the head that the last one didn't write: that block alone
turns the disk to the new state.
"""

from stillpoint.chains import block_count, chain_blocks, free_numbers
from stillpoint.disk import BLOCK_BYTES
from stillpoint.images import TURN_PLACE, head_block, image_of

TURNS = 256


class Store:
    def __init__(self, disk, slot, turn, synced):
        # slot and turn: those of the last head; synced: the chains of the last sync, by their rows.
        self.disk = disk
        self.slot = slot
        self.turn = turn
        self.synced = synced

    def image_for(self, state, kept):
        free = free_numbers(block_count(self.disk), self.synced)
        return image_of(state, kept, free, self.synced)

    def save(self, image):
        for row, numbers in image.places.items():
            if row not in self.synced:
                for number, block in zip(numbers, chain_blocks(row, numbers)):
                    self.disk.write(number, block)
        self.disk.barrier()
        self.slot = 1 - self.slot
        self.turn = (self.turn + 1) % TURNS
        self.disk.write(self.slot, head_block(image, self.turn))
        self.disk.barrier()
        self.synced = image.places


def new_store(disk):
    # What was on the disk may look like a head, and a newer one.
    disk.write(1, (0,) * BLOCK_BYTES)
    return Store(disk, 1, TURNS - 1, {})


def newest_first(disk):
    first = disk.read(0)
    second = disk.read(1)
    if first is None or second is None:
        return (0, 1)
    # Turns count around: of two heads that syncs left the newer one is just one ahead.
    if (second[TURN_PLACE] - first[TURN_PLACE]) % TURNS == 1:
        return (1, 0)
    return (0, 1)
