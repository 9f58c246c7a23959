"""Files: what is asked of a disk's state, and what changes it."""

from stillpoint.chains import Reader
from stillpoint.deeds import check_path, linked, made, renamed, resized, unlinked, written
from stillpoint.errors import BadName, IsThere, NoFiles, NoThing, ReadOnly, TooGreat
from stillpoint.images import MARK, TURN_PLACE, head_block, same_image, snapshots_in, state_in
from stillpoint.names import is_name, path_names
from stillpoint.states import (
    check_thing, data_of, entries_of, first_state, kind_of, least_free, links_of, size_of, walk,
)
from stillpoint.stores import Store, new_store, newest_first

MOST_SNAPSHOTS = 3


def check_name(name):
    if not is_name(name):
        raise BadName(f"{name} is no name")


class Files:
    def __init__(self, state, kept, store, image):
        # kept: the snapshots' states, by their names; image: what a sync would put on the disk.
        self.state = state
        self.kept = kept
        # None where they may only be read.
        self.store = store
        self.image = image

    def find(self, path):
        check_path(path)
        return walk(self.state, path_names(path))[-1]

    def read(self, number, start, many):
        return list(data_of(self.state, number)[start:start + many])

    def stat(self, number):
        check_thing(self.state, number)
        return (kind_of(self.state, number), links_of(self.state, number), size_of(self.state, number))

    def names(self, number):
        return sorted(entries_of(self.state, number).items())

    def snaps(self):
        return sorted(self.kept)

    def see(self, name):
        check_name(name)
        self.check_kept(name)
        return Files(self.kept[name], self.kept, None, None)

    def make(self, path, kind):
        self.check_changeable()
        number = least_free(self.state)
        self.turn_to(made(self.state, path, kind), self.kept)
        return number

    def link(self, old, new):
        self.check_changeable()
        self.turn_to(linked(self.state, old, new), self.kept)

    def unlink(self, path):
        self.check_changeable()
        self.turn_to(unlinked(self.state, path), self.kept)

    def rename(self, old, new):
        self.check_changeable()
        self.turn_to(renamed(self.state, old, new), self.kept)

    def write(self, number, start, row):
        self.check_changeable()
        self.turn_to(written(self.state, number, start, row), self.kept)
        return len(row)

    def cut(self, number, size):
        self.check_changeable()
        self.turn_to(resized(self.state, number, size), self.kept)

    def snap(self, name):
        self.check_changeable()
        check_name(name)
        if name in self.kept:
            raise IsThere(f"there is a snapshot {name}")
        if len(self.kept) >= MOST_SNAPSHOTS:
            raise TooGreat("there are three snapshots")
        kept = dict(self.kept)
        kept[name] = self.state
        self.turn_to(self.state, kept)

    def unsnap(self, name):
        self.check_changeable()
        check_name(name)
        self.check_kept(name)
        kept = dict(self.kept)
        kept.pop(name)
        self.turn_to(self.state, kept)

    def sync(self):
        self.check_changeable()
        self.store.save(self.image)

    def check_kept(self, name):
        if name not in self.kept:
            raise NoThing(f"there is no snapshot {name}")

    def check_changeable(self):
        if self.store is None:
            raise ReadOnly("a snapshot may only be read")

    def turn_to(self, state, kept):
        # Laid out at once: what a sync would have no room for is refused ahead of any change.
        # The dict of snapshots is never changed, as views hold it, too.
        self.image = self.store.image_for(state, kept)
        self.state = state
        self.kept = kept


def formatted(disk):
    state = first_state()
    store = new_store(disk)
    image = store.image_for(state, {})
    store.save(image)
    return Files(state, {}, store, image)


def files_of(disk, slot):
    block = disk.read(slot)
    if block is None or block[:len(MARK)] != MARK:
        raise NoFiles("there is no head")
    reader = Reader(disk)
    state = state_in(block, reader)
    kept = snapshots_in(block, reader)
    image = same_image(state, kept, reader.places)
    if head_block(image, block[TURN_PLACE]) != block:
        raise NoFiles("a head is another one than a sync would write")
    return Files(state, kept, Store(disk, slot, block[TURN_PLACE], image.places), image)


def mounted(disk):
    for slot in newest_first(disk):
        try:
            files = files_of(disk, slot)
        except NoFiles:
            continue
        return files
    raise NoFiles("there are no files on the disk")
