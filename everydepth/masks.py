"""Sets of small integers, nodes or letters, as integers with a bit for each."""


def nodes_in(mask):
    """The ascending list of the integers in a set."""
    # The figures of a great set are sooner read as a text than taken off one by one.
    text = f"{mask:b}"
    text = text[::-1]
    if 4 * text.count("1") > len(text):
        return [at for at, sign in enumerate(text) if sign == "1"]
    found = []
    at = text.find("1")
    while at >= 0:
        found.append(at)
        at = text.find("1", at + 1)
    return found


def united(masks):
    """The set of what is in one of some sets."""
    found = 0
    for mask in masks:
        found = found | mask
    return found
