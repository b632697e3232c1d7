"""Sets of small integers, nodes or letters, as integers with a bit for each."""


def nodes_in(mask):
    """The ascending list of the integers in a set."""
    found = []
    while mask > 0:
        lowest = mask & -mask
        found.append(lowest.bit_length() - 1)
        mask = mask ^ lowest
    return found


def united(masks):
    """The set of what is in one of some sets."""
    found = 0
    for mask in masks:
        found = found | mask
    return found
