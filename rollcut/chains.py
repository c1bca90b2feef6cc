"""How a tone is cut: as a chain of slots with bridges between.

A slot is a tuple: its first row and how many rows it has.
"""


def chain_slots(sounding, paper):
    """The slots that a tone of so many sounding rows, from row 0 on, is cut to; none if it can't be cut."""
    rows = sounding - paper.tail
    slots = fewest_slots(rows, paper)
    if slots == 0:
        return []
    bridged = max((slots - 1) * paper.bridge, rows - slots * paper.longest)
    return laid_slots(shared(rows - bridged, slots), shared(bridged, slots - 1))


def fewest_slots(rows, paper):
    """How many slots a chain of so many rows has; 0 if no number of them can do it."""
    slots = 1
    while slots * paper.longest + (slots - 1) * paper.tail < rows:
        slots += 1
    # More slots need more rows, so where the fewest that are long enough don't fit, no others do.
    if slots + (slots - 1) * paper.bridge > rows:
        return 0
    if slots > 1 and paper.bridge > paper.tail:
        return 0
    return slots


def shared(rows, things):
    """How many of the rows each thing has, as alike as may be."""
    return [rows // things + (1 if thing < rows % things else 0) for thing in range(things)]


def laid_slots(lengths, bridges):
    slots = []
    first = 0
    # Behind the last slot no bridge stands.
    for length, bridge in zip(lengths, bridges + [0]):
        slots.append((first, length))
        first += length + bridge
    return slots
