"""Images: what the blocks of a disk hold of a state and its snapshots.

Each file's bytes and each directory's entries are a row, and so is each state's table, which
tells for every thing its number, its kind, its row's length and where that row's chain begins.
The head, one block, tells where the tables of the state and of the snapshots begin.
"""

from stillpoint.chains import Chains
from stillpoint.disk import BLOCK_BYTES
from stillpoint.errors import NoFiles, NoRoom
from stillpoint.names import LONGEST_NAME, NAME_SIGNS, is_name
from stillpoint.states import MOST_BYTES, State, all_numbers, is_whole

MARK = (83, 116, 105, 108)
TURN_PLACE = 4
STATE_PLACE = 5
SNAPSHOT_PLACES = (7, 17, 27)
CHECK_PLACE = 37
HEAD_BYTES = 2
FILE_KIND = 1
DIRECTORY_KIND = 2
ENTRY_BYTES = 9
TABLE_BYTES = 5
CHECK_FACTOR = 1000003
CHECK_PRIME = 4294967291


class Image:
    def __init__(self, places, heads):
        # places: the chains, by their rows; heads: what the head tells of the tables.
        self.places = places
        self.heads = heads


def name_codes(name):
    codes = [NAME_SIGNS.index(sign) + 1 for sign in name]
    return tuple(codes) + (0,) * (LONGEST_NAME - len(codes))


def name_of(codes):
    if any([code > len(NAME_SIGNS) for code in codes]):
        raise NoFiles("a name has other signs")
    name = "".join([NAME_SIGNS[code - 1] for code in codes if code > 0])
    if not is_name(name):
        raise NoFiles("a name is none")
    return name


def entries_row(entries):
    row = ()
    for name, number in sorted(entries.items()):
        row = row + name_codes(name) + (number,)
    return row


def row_entries(row):
    entries = {}
    for place in range(0, len(row), ENTRY_BYTES):
        entry = row[place:place + ENTRY_BYTES]
        entries[name_of(entry[:LONGEST_NAME])] = entry[-1]
    return entries


def table_head(state, chains):
    table = ()
    for number in all_numbers(state):
        if number in state.data:
            kind = FILE_KIND
            row = state.data[number]
        else:
            kind = DIRECTORY_KIND
            row = entries_row(state.entries[number])
        table = table + (number, kind, len(row) // 256, len(row) % 256, chains.put(row))
    return (len(all_numbers(state)), chains.put(table))


def thing_row(reader, part):
    length = part[2] * 256 + part[3]
    # No thing's row is longer; a chain that leads back into itself could be read for long.
    if length > MOST_BYTES:
        raise NoFiles("a row is too long")
    return reader.row_at(part[4], length)


def state_at(reader, head):
    table = reader.row_at(head[1], head[0] * TABLE_BYTES)
    data = {}
    entries = {}
    for place in range(0, len(table), TABLE_BYTES):
        part = table[place:place + TABLE_BYTES]
        if part[1] == FILE_KIND:
            data[part[0]] = thing_row(reader, part)
        else:
            entries[part[0]] = row_entries(thing_row(reader, part))
    state = State(data, entries)
    if not is_whole(state):
        raise NoFiles("a state isn't whole")
    return state


def image_of(state, kept, free, older):
    chains = Chains(free, older)
    heads = table_head(state, chains)
    for name in sorted(kept):
        heads = heads + name_codes(name) + table_head(kept[name], chains)
    return Image(chains.places, heads)


def same_image(state, kept, places):
    # With no block free, only what already lies on the disk just as a sync would lay it fits.
    try:
        image = image_of(state, kept, [], places)
    except NoRoom:
        raise NoFiles("blocks are others than a sync would write") from None
    return image


def check_of(row):
    check = len(row)
    for number in row:
        check = (check * CHECK_FACTOR + number) % CHECK_PRIME
    return check


def check_bytes(rows):
    # A sum, as the chains have no order.
    check = sum([check_of(row) for row in rows]) % CHECK_PRIME
    return (check // 256 ** 3, check // 256 ** 2 % 256, check // 256 % 256, check % 256)


def padded(row, length):
    return row + (0,) * (length - len(row))


def head_block(image, turn):
    row = padded(MARK + (turn,) + image.heads, CHECK_PLACE)
    return padded(row + check_bytes([row] + list(image.places)), BLOCK_BYTES)


def state_in(block, reader):
    return state_at(reader, block[STATE_PLACE:STATE_PLACE + HEAD_BYTES])


def snapshots_in(block, reader):
    kept = {}
    for place in SNAPSHOT_PLACES:
        behind = place + LONGEST_NAME
        if block[behind] > 0:
            kept[name_of(block[place:behind])] = state_at(reader, block[behind:behind + HEAD_BYTES])
    return kept
