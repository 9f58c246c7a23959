"""A plain model of things, entries, bytes and snapshots, which shares no code with the program."""

import re

NAME = re.compile(r"[A-Za-z0-9._-]{1,8}\Z")
NUMBERS = tuple(range(-2, 36))


class Refused(Exception):
    """Made of the name of the refusal's class."""


def is_name(text):
    return NAME.match(text) is not None and text not in (".", "..")


def names_in(path):
    """The names of a path, from the left; BadName of what is no path."""
    if path == "/":
        return []
    if len(path) > 60 or path[:1] != "/" or not all(is_name(name) for name in path.split("/")[1:]):
        raise Refused("BadName")
    return path.split("/")[1:]


class Things:
    """A state: the bytes of each file and the entries of each directory, by their numbers."""

    def __init__(self):
        self.bytes = {}
        self.entries = {0: {}}

    def copy(self):
        other = Things()
        other.bytes = dict(self.bytes)
        other.entries = {number: dict(entries) for number, entries in self.entries.items()}
        return other

    def all_entries(self):
        return [pair for entries in self.entries.values() for pair in entries.items()]

    def stat(self, number):
        if number in self.entries:
            return ("dir", 1, 10 * len(self.entries[number]))
        if number not in self.bytes:
            raise Refused("NoThing")
        links = sum(1 for name, named in self.all_entries() if named == number)
        return ("file", links, len(self.bytes[number]))

    def file(self, number):
        if self.stat(number)[0] == "dir":
            raise Refused("WrongKind")
        return self.bytes[number]

    def names(self, number):
        if self.stat(number)[0] == "file":
            raise Refused("WrongKind")
        return sorted(self.entries[number].items())

    def walked(self, names):
        """The numbers that are walked over, the root first."""
        passed = [0]
        for name in names:
            if passed[-1] not in self.entries:
                raise Refused("NoDirectory")
            if name not in self.entries[passed[-1]]:
                raise Refused("NoThing")
            passed.append(self.entries[passed[-1]][name])
        return passed

    def walked_to_directory(self, names):
        passed = self.walked(names[:-1])
        if passed[-1] not in self.entries:
            raise Refused("NoDirectory")
        return passed

    def drop(self, directory, name):
        number = self.entries[directory].pop(name)
        if all(named != number for other, named in self.all_entries()):
            self.bytes.pop(number, None)
            self.entries.pop(number, None)

    def need(self):
        numbers = list(self.bytes) + list(self.entries)
        return 2 + sum(2 + -(-self.stat(number)[2] // 32) for number in numbers)

    def shown(self):
        found = {}
        for number in sorted(list(self.bytes) + list(self.entries)):
            body = list(self.bytes[number]) if number in self.bytes else self.names(number)
            found[number] = (self.stat(number), body)
        return found


class Model:
    """What Files are to answer; its deeds refuse with Refused, and never for room."""

    def __init__(self):
        self.now = Things()
        self.kept = {}
        self.synced = (self.now.copy(), {})

    def copy(self):
        other = Model()
        other.now, other.kept, other.synced = self.now.copy(), dict(self.kept), self.synced
        return other

    def as_synced(self):
        """The model of what is mounted behind the last sync."""
        other = Model()
        other.now, other.kept, other.synced = self.synced[0].copy(), dict(self.synced[1]), self.synced
        return other

    def shown(self):
        return (self.now.shown(), {name: things.shown() for name, things in self.kept.items()})

    def needs(self):
        return [self.now.need()] + [things.need() for things in self.kept.values()]

    def synced_needs(self):
        return [self.synced[0].need()] + [things.need() for things in self.synced[1].values()]

    # What is asked

    def find(self, path):
        return self.now.walked(names_in(path))[-1]

    def read(self, number, start, many):
        return list(self.now.file(number)[start:start + many])

    def stat(self, number):
        return self.now.stat(number)

    def names(self, number):
        return self.now.names(number)

    def snaps(self):
        return sorted(self.kept)

    # What changes

    def least_free(self):
        return min(set(range(33)) - set(self.now.bytes) - set(self.now.entries))

    def new_place(self, path, names):
        if path == "/":
            raise Refused("IsThere")
        directory = self.now.walked_to_directory(names)[-1]
        if names[-1] in self.now.entries[directory]:
            raise Refused("IsThere")
        return directory

    def make(self, path, kind):
        names = names_in(path)
        directory = self.new_place(path, names)
        number = self.least_free()
        if number == 32 or len(self.now.entries[directory]) == 40:
            raise Refused("TooGreat")
        if kind == "dir":
            self.now.entries[number] = {}
        else:
            self.now.bytes[number] = b""
        self.now.entries[directory][names[-1]] = number
        return number

    def link(self, old, new):
        old_names, new_names = names_in(old), names_in(new)
        number = self.now.walked(old_names)[-1]
        if number in self.now.entries:
            raise Refused("WrongKind")
        directory = self.new_place(new, new_names)
        if len(self.now.entries[directory]) == 40:
            raise Refused("TooGreat")
        self.now.entries[directory][new_names[-1]] = number

    def unlink(self, path):
        names = names_in(path)
        passed = self.now.walked(names)
        if path == "/":
            raise Refused("WrongKind")
        if self.now.entries.get(passed[-1]):
            raise Refused("NotEmpty")
        self.now.drop(passed[-2], names[-1])

    def rename(self, old, new):
        old_names, new_names = names_in(old), names_in(new)
        passed = self.now.walked(old_names)
        if "/" in (old, new):
            raise Refused("WrongKind")
        number, source = passed[-1], passed[-2]
        ahead = self.now.walked_to_directory(new_names)
        if number in ahead:
            raise Refused("WrongKind")
        target = self.now.entries[ahead[-1]]
        if new_names[-1] in target:
            there = target[new_names[-1]]
            if there == number:
                return
            if (there in self.now.bytes) != (number in self.now.bytes):
                raise Refused("WrongKind")
            if self.now.entries.get(there):
                raise Refused("NotEmpty")
            self.now.drop(ahead[-1], new_names[-1])
        elif source != ahead[-1] and len(target) == 40:
            raise Refused("TooGreat")
        target[new_names[-1]] = number
        self.now.entries[source].pop(old_names[-1])

    def write(self, number, start, row):
        data = self.now.file(number)
        if start + len(row) > 600:
            raise Refused("TooGreat")
        if row:
            ahead = data[:start].ljust(start, b"\0")
            self.now.bytes[number] = ahead + bytes(row) + data[start + len(row):]
        return len(row)

    def cut(self, number, size):
        data = self.now.file(number)
        if size > 600:
            raise Refused("TooGreat")
        self.now.bytes[number] = data[:size].ljust(size, b"\0")

    def snap(self, name):
        if not is_name(name):
            raise Refused("BadName")
        if name in self.kept:
            raise Refused("IsThere")
        if len(self.kept) == 3:
            raise Refused("TooGreat")
        self.kept[name] = self.now.copy()

    def unsnap(self, name):
        if not is_name(name):
            raise Refused("BadName")
        if name not in self.kept:
            raise Refused("NoThing")
        self.kept.pop(name)

    def sync(self):
        self.synced = (self.now.copy(), dict(self.kept))


def room_asked(ahead, behind):
    """The sum of [46] for a call that makes one model the other."""
    return 2 + sum(ahead.needs()) + sum(behind.needs()) + sum(ahead.synced_needs())
