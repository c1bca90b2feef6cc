"""Builds calls, takes answers apart, and judges strips the slow way."""

from rollcut.strips import answers


def read(text):
    """The call read; text is a str of signs below 256, or a list of bytes."""
    row = [ord(sign) for sign in text] if isinstance(text, str) else list(text)
    return [1, len(row)] + row


def text(s):
    return [2, s]


def paper(tail, longest, bridge, near):
    return [3, tail, longest, bridge, near]


def judge(s):
    return [4, s]


def raw(*calls):
    """What is given back for some calls, as it stands."""
    return answers([number for call in calls for number in call])


def rows_of(given):
    """The answers' rows, taken apart by the counts before them."""
    rows = []
    place = 0
    while place < len(given):
        rows.append(given[place + 1:place + 1 + given[place]])
        assert len(rows[-1]) == given[place] > 0
        place += 1 + given[place]
    return rows


def take_apart(row):
    """An answer as (number, list, text)."""
    if len(row) == 1:
        return (row[0], [], "")
    behind = 2 + row[1]
    listed = row[2:behind]
    spelled = row[behind + 1:]
    assert len(listed) == row[1] and len(spelled) == row[behind]
    assert listed or spelled
    return (row[0], listed, "".join(chr(byte) for byte in spelled))


def ask(*calls):
    """The answers to some calls, each as (number, list, text)."""
    return [take_apart(row) for row in rows_of(raw(*calls))]


def number(n):
    return (n, [], "")


def told(strip_text):
    """What text answers for a strip of that text."""
    return (len(strip_text), [], strip_text)


def wrong(kind, row, track):
    return (1, [kind, row, track], "")


def fault(place):
    return (-6, [place], "")


def text_of_rows(width, rows):
    """The text of a strip whose rows are told one by one, each as a rising list of tracks."""
    lines = ["strip %d\n" % width]
    place = 0
    while place < len(rows):
        behind = place
        while behind < len(rows) and rows[behind] == rows[place]:
            behind += 1
        lines.append(" ".join(str(n) for n in [behind - place] + rows[place]) + "\n")
        place = behind
    return "".join(lines)


def slots_before(rows, row, track):
    """The slots of a track up to a row, each as [first, last], the latest last."""
    slots = []
    for i in range(row + 1):
        if track in rows[i]:
            if slots and slots[-1][1] == i - 1:
                slots[-1][1] = i
            else:
                slots.append([i, i])
    return slots


def judged_slowly(rows, width, longest, bridge, near):
    """What judge has to answer, hole by hole in the document's words."""
    for row in range(len(rows)):
        for track in range(width):
            if track not in rows[row]:
                continue
            slots = slots_before(rows, row, track)
            if row - slots[-1][0] + 1 == longest + 1:
                return wrong(1, row, track)
            if slots[-1][0] == row and len(slots) > 1 and row - slots[-2][1] - 1 < bridge:
                return wrong(2, row, track)
            beside = 1
            while track - beside in rows[row]:
                beside += 1
            if beside == near + 1:
                return wrong(3, row, track)
    return number(0)
