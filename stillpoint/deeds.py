"""What changes: each deed takes a state and tells the one behind it, or refuses."""

from stillpoint.errors import BadName, IsThere, NotEmpty, TooGreat, WrongKind
from stillpoint.names import is_path, path_names
from stillpoint.states import (
    MOST_BYTES, MOST_ENTRIES, State, data_of, kind_of, least_free, named_numbers, walk, walk_to_directory,
)


def check_path(path):
    if not is_path(path):
        raise BadName(f"{path} is no path")


def check_not_full(state, directory):
    if len(state.entries[directory]) >= MOST_ENTRIES:
        raise TooGreat("the directory is full")


def check_empty(state, number):
    if state.entries.get(number, {}) != {}:
        raise NotEmpty("the directory has entries")


def free_place(state, path):
    if path == "/":
        raise IsThere("the root is there")
    directory = walk_to_directory(state, path)[-1]
    if path_names(path)[-1] in state.entries[directory]:
        raise IsThere(f"{path} is there")
    return directory


def with_data(state, number, row):
    data = dict(state.data)
    data[number] = row
    return State(data, state.entries)


def with_entries(state, number, entries):
    changed = dict(state.entries)
    changed[number] = entries
    return State(state.data, changed)


def with_entry(state, directory, name, number):
    entries = dict(state.entries[directory])
    entries[name] = number
    return with_entries(state, directory, entries)


def without_thing(state, number):
    data = dict(state.data)
    data.pop(number, None)
    entries = dict(state.entries)
    entries.pop(number, None)
    return State(data, entries)


def without_entry(state, directory, name):
    entries = dict(state.entries[directory])
    number = entries.pop(name)
    changed = with_entries(state, directory, entries)
    if number in named_numbers(changed):
        return changed
    return without_thing(changed, number)


def made(state, path, kind):
    check_path(path)
    directory = free_place(state, path)
    number = least_free(state)
    if number is None:
        raise TooGreat("no number is free")
    check_not_full(state, directory)
    if kind == "dir":
        changed = with_entries(state, number, {})
    else:
        changed = with_data(state, number, ())
    return with_entry(changed, directory, path_names(path)[-1], number)


def linked(state, old, new):
    check_path(old)
    check_path(new)
    number = walk(state, path_names(old))[-1]
    if number in state.entries:
        raise WrongKind("a directory has one name alone")
    directory = free_place(state, new)
    check_not_full(state, directory)
    return with_entry(state, directory, path_names(new)[-1], number)


def unlinked(state, path):
    check_path(path)
    passed = walk(state, path_names(path))
    if path == "/":
        raise WrongKind("the root stays")
    check_empty(state, passed[-1])
    return without_entry(state, passed[-2], path_names(path)[-1])


def check_replaceable(state, number, there):
    if kind_of(state, number) != kind_of(state, there):
        raise WrongKind("a file and a directory don't take each other's place")
    check_empty(state, there)


def renamed(state, old, new):
    check_path(old)
    check_path(new)
    passed = walk(state, path_names(old))
    if old == "/" or new == "/":
        raise WrongKind("the root has no name")
    number = passed[-1]
    ahead = walk_to_directory(state, new)
    # Just one entry names a directory: what lies within it is walked to through it alone.
    if number in ahead:
        raise WrongKind("a directory can't stand within itself")
    name = path_names(new)[-1]
    there = state.entries[ahead[-1]].get(name)
    if there == number:
        return state
    changed = state
    if there is not None:
        check_replaceable(state, number, there)
        changed = without_entry(state, ahead[-1], name)
    elif ahead[-1] != passed[-2]:
        check_not_full(state, ahead[-1])
    # The new entry comes ahead of the old one's end: a thing that no entry names is gone.
    changed = with_entry(changed, ahead[-1], name, number)
    return without_entry(changed, passed[-2], path_names(old)[-1])


def lengthened(row, size):
    return row + (0,) * (size - len(row))


def written(state, number, start, row):
    data = data_of(state, number)
    end = start + len(row)
    if end > MOST_BYTES:
        raise TooGreat("a file has up to 600 bytes")
    if len(row) == 0:
        return state
    ahead = lengthened(data, start)[:start]
    return with_data(state, number, ahead + tuple(row) + data[end:])


def resized(state, number, size):
    data = data_of(state, number)
    if size > MOST_BYTES:
        raise TooGreat("a file has up to 600 bytes")
    return with_data(state, number, lengthened(data, size)[:size])
