"""What is wrong with a strip by a paper's rules.

A wrong is a tuple: row, track, kind. So the least of some wrongs is the one that is judged first.
"""

TOO_LONG = 1
TOO_CLOSE = 2
TOO_NEAR = 3


def first_wrong(strip, paper):
    """The first wrong of a strip, or None.

    Only a run's first row can be wrong by kind 2 or 3: its other rows have the same holes, and no slot begins there.
    """
    # By track: the first row of the latest slot, and the row behind it.
    begins = {}
    ends = {}
    row = 0
    for run in strip.runs:
        wrongs = close_wrongs(run, row, ends, paper.bridge) + near_wrongs(run, row, paper.near)
        begin_slots(run, row, begins, ends)
        wrongs.extend(long_wrongs(run, row, begins, paper.longest))
        if wrongs:
            return min(wrongs)
        row += run.rows
        for track in run.tracks:
            ends[track] = row
    return None


def begin_slots(run, row, begins, ends):
    for track in run.tracks:
        if ends.get(track) != row:
            begins[track] = row


def long_wrongs(run, row, begins, longest):
    wrongs = []
    for track in run.tracks:
        over = begins[track] + longest
        if over < row + run.rows:
            wrongs.append((over, track, TOO_LONG))
    return wrongs


def close_wrongs(run, row, ends, bridge):
    wrongs = []
    for track in run.tracks:
        # With no row between, the slot before goes on and none begins.
        if track in ends and 0 < row - ends[track] < bridge:
            wrongs.append((row, track, TOO_CLOSE))
    return wrongs


def near_wrongs(run, row, near):
    wrongs = []
    beside = 0
    before = None
    for track in run.tracks:
        beside = beside + 1 if track - 1 == before else 1
        before = track
        if beside > near:
            wrongs.append((row, track, TOO_NEAR))
    return wrongs
