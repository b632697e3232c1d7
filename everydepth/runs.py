"""Runs: what stands side by side, such as full lines or cells with some shades, told part by part.

The runs of a part are a tuple: how many it begins with, how many it ends with, and the first place
and the number of its first longest run.
"""


def whole_run(many):
    """The runs of a part that is one run of so many, perhaps of none."""
    return (many, many, 0, many)


def joined(parts, side):
    """The runs of some parts side by side, each with a side of this length."""
    begin = 0
    open_run = 0
    best_first, best = 0, 0
    for at, (head, tail, first, many) in enumerate(parts):
        if open_run == at * side:
            begin = open_run + head
        if open_run + head > best:
            best_first, best = at * side - open_run, open_run + head
        if many > best:
            best_first, best = at * side + first, many
        open_run = open_run + side if tail == side else tail
    return (begin, open_run, best_first, best)
