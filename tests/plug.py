"""Works out from a log what a disk may hold when the plug is pulled, as [11] tells."""

from itertools import product


def spans(log):
    """The writes between the barriers, one list for each stretch; the last may be empty."""
    found = [[]]
    for entry in log:
        if entry[0] == "barrier":
            found.append([])
        else:
            found[-1].append(entry)
    return found


def steps(blocks, log):
    """For each stretch the blocks ahead of it, and what may be left of each that it writes."""
    ahead = list(blocks)
    for writes in spans(log):
        choices = {}
        for word, number, block in writes:
            choices.setdefault(number, [ahead[number], None]).append(block)
        yield list(ahead), choices
        for word, number, block in writes:
            ahead[number] = block


def left_of(ahead, choices, picked):
    left = list(ahead)
    for number, block in zip(choices, picked):
        left[number] = block
    return left


def pulled(blocks, log):
    """Every list of blocks that may be left of a disk that held blocks when its log began."""
    left = []
    for ahead, choices in steps(blocks, log):
        for picked in product(*choices.values()):
            state = left_of(ahead, choices, picked)
            if state not in left:
                left.append(state)
    return left


def ways_left(ahead, choices, rng, many):
    """What one stretch may leave: every way, or if they are many all alike, each block else, and drawn ones."""
    ways = 1
    for choice in choices.values():
        ways *= len(choice)
    if ways <= many:
        for picked in product(*choices.values()):
            yield left_of(ahead, choices, picked)
        return
    for place in (0, 1, -1):
        alike = [choice[place] for choice in choices.values()]
        yield left_of(ahead, choices, alike)
        for number, choice in enumerate(choices.values()):
            for block in choice:
                yield left_of(ahead, choices, alike[:number] + [block] + alike[number + 1:])
    for turn in range(many):
        yield left_of(ahead, choices, [rng.choice(choice) for choice in choices.values()])


def pulled_somehow(blocks, log, rng, many):
    """As pulled, but of each stretch as ways_left tells."""
    for ahead, choices in steps(blocks, log):
        yield from ways_left(ahead, choices, rng, many)
