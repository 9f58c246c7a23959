"""States: the things that are there, by their numbers, and the walks along paths.

A state is never changed once it is made, a deed makes another one: so snapshots and views
hold states without copies, and what is refused has nothing to take back.
"""

from stillpoint.errors import NoDirectory, NoThing, WrongKind
from stillpoint.names import is_name, path_names

ROOT = 0
MOST_THINGS = 32
MOST_BYTES = 600
MOST_ENTRIES = 40
ENTRY_SIZE = 10


class State:
    def __init__(self, data, entries):
        # data: each file's tuple of bytes; entries: each directory's dict of names to numbers.
        self.data = data
        self.entries = entries


def first_state():
    return State({}, {ROOT: {}})


def all_numbers(state):
    return sorted(list(state.data) + list(state.entries))


def is_thing(state, number):
    return number in state.data or number in state.entries


def check_thing(state, number):
    # The number itself is left out: Python refuses to write very great ones as texts.
    if not is_thing(state, number):
        raise NoThing("no thing has that number")


def data_of(state, number):
    check_thing(state, number)
    if number in state.entries:
        raise WrongKind("a directory has no bytes")
    return state.data[number]


def entries_of(state, number):
    check_thing(state, number)
    if number in state.data:
        raise WrongKind("a file has no entries")
    return state.entries[number]


def least_free(state):
    for number in range(MOST_THINGS):
        if not is_thing(state, number):
            return number
    return None


def named_numbers(state):
    found = []
    for entries in state.entries.values():
        found.extend(list(entries.values()))
    return found


def kind_of(state, number):
    return "dir" if number in state.entries else "file"


def links_of(state, number):
    if number in state.entries:
        return 1
    return named_numbers(state).count(number)


def size_of(state, number):
    if number in state.entries:
        return ENTRY_SIZE * len(state.entries[number])
    return len(state.data[number])


def check_directory(state, number):
    if number not in state.entries:
        raise NoDirectory("the path goes through a file")


def walk(state, names):
    # All that is passed is told, the root first: what lies within what shows in it.
    passed = [ROOT]
    for name in names:
        check_directory(state, passed[-1])
        entries = state.entries[passed[-1]]
        if name not in entries:
            raise NoThing(f"there is no entry {name}")
        passed.append(entries[name])
    return passed


def walk_to_directory(state, path):
    passed = walk(state, path_names(path)[:-1])
    check_directory(state, passed[-1])
    return passed


def reached_numbers(state):
    found = [ROOT]
    place = 0
    while place < len(found):
        entries = state.entries.get(found[place], {})
        for number in entries.values():
            if number not in found:
                found.append(number)
        place += 1
    return sorted(found)


def keeps_bounds(state):
    if any([number < 0 or number >= MOST_THINGS for number in all_numbers(state)]):
        return False
    if any([len(row) > MOST_BYTES for row in state.data.values()]):
        return False
    for entries in state.entries.values():
        if len(entries) > MOST_ENTRIES or not all([is_name(name) for name in entries]):
            return False
    return True


def is_whole(state):
    if ROOT not in state.entries or not keeps_bounds(state):
        return False
    named = named_numbers(state)
    if ROOT in named or any([named.count(number) > 1 for number in state.entries]):
        return False
    return reached_numbers(state) == all_numbers(state)
