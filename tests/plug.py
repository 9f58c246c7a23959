"""Works out from a log what a disk may hold when the plug is pulled, as [11] tells."""

from itertools import product


def spans(log):
    """The writes between the barriers, one list for each stretch; the last may be empty."""
    found = [[]]
    for entry in log:
        if entry[0] == "barrier":
            found.append([])
        else:
            found[-1].append(entry)
    return found


def pulled(blocks, log):
    """Every list of blocks that may be left of a disk that held blocks when its log began."""
    left = []
    ahead = list(blocks)
    for writes in spans(log):
        choices = {}
        for word, number, block in writes:
            choices.setdefault(number, [ahead[number], None]).append(block)
        for picked in product(*choices.values()):
            state = list(ahead)
            for number, block in zip(choices, picked):
                state[number] = block
            if state not in left:
                left.append(state)
        for word, number, block in writes:
            ahead[number] = block
    return left
