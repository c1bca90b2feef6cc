"""Builds calls, takes answers apart, and hears, cuts and judges strips the slow way, by the document's words."""

from rollcut.strips import answers


def read(text):
    """The call read; text is a str of signs below 256, or a list of bytes."""
    row = [ord(sign) for sign in text] if isinstance(text, str) else list(text)
    return [1, len(row)] + row


def text(s):
    return [2, s]


def paper(tail, longest, bridge, near):
    return [3, tail, longest, bridge, near]


def judge(s):
    return [4, s]


def sounds(s, row):
    return [5, s, row]


def tones(s):
    return [6, s]


def chain(rows):
    return [7, rows]


def cut(width, rows, wanted):
    """The call cut; wanted are tones, each as (track, first row, end)."""
    row = [n for tone in wanted for n in tone]
    return [8, width, rows, len(row)] + row


def raw(*calls):
    """What is given back for some calls, as it stands."""
    return answers([number for call in calls for number in call])


def rows_of(given):
    """The answers' rows, taken apart by the counts before them."""
    rows = []
    place = 0
    while place < len(given):
        rows.append(given[place + 1:place + 1 + given[place]])
        assert len(rows[-1]) == given[place] > 0
        place += 1 + given[place]
    return rows


def take_apart(row):
    """An answer as (number, list, text)."""
    if len(row) == 1:
        return (row[0], [], "")
    behind = 2 + row[1]
    listed = row[2:behind]
    spelled = row[behind + 1:]
    assert len(listed) == row[1] and len(spelled) == row[behind]
    assert listed or spelled
    return (row[0], listed, "".join(chr(byte) for byte in spelled))


def ask(*calls):
    """The answers to some calls, each as (number, list, text)."""
    return [take_apart(row) for row in rows_of(raw(*calls))]


def number(n):
    return (n, [], "")


def told(strip_text):
    """What text answers for a strip of that text."""
    return (len(strip_text), [], strip_text)


def wrong(kind, row, track):
    return (1, [kind, row, track], "")


def fault(place):
    return (-6, [place], "")


def heard(*tracks):
    """What sounds answers where these tracks sound."""
    return (0, list(tracks), "")


def toned(*wanted):
    """What tones answers for a strip with these tones."""
    return (len(wanted), [n for tone in wanted for n in tone], "")


def chained(*slots):
    """What chain answers for these slots, each as (first row, how many rows)."""
    return (len(slots), [n for slot in slots for n in slot], "")


def uncut(n):
    """What cut answers if tone n is the first at fault."""
    return (-3, [n], "")


def spoiled(kind, row, track):
    """What cut answers if the strip that would come is wrong."""
    return (-9, [kind, row, track], "")


def text_of_rows(width, rows):
    """The text of a strip whose rows are told one by one, each as a rising list of tracks."""
    lines = ["strip %d\n" % width]
    place = 0
    while place < len(rows):
        behind = place
        while behind < len(rows) and rows[behind] == rows[place]:
            behind += 1
        lines.append(" ".join(str(n) for n in [behind - place] + rows[place]) + "\n")
        place = behind
    return "".join(lines)


def slots_before(rows, row, track):
    """The slots of a track up to a row, each as [first, last], the latest last."""
    slots = []
    for i in range(row + 1):
        if track in rows[i]:
            if slots and slots[-1][1] == i - 1:
                slots[-1][1] = i
            else:
                slots.append([i, i])
    return slots


def judged_slowly(rows, width, longest, bridge, near):
    """What judge has to answer, hole by hole in the document's words."""
    for row in range(len(rows)):
        for track in range(width):
            if track not in rows[row]:
                continue
            slots = slots_before(rows, row, track)
            if row - slots[-1][0] + 1 == longest + 1:
                return wrong(1, row, track)
            if slots[-1][0] == row and len(slots) > 1 and row - slots[-2][1] - 1 < bridge:
                return wrong(2, row, track)
            beside = 1
            while track - beside in rows[row]:
                beside += 1
            if beside == near + 1:
                return wrong(3, row, track)
    return number(0)


def sounds_slowly(rows, width, tail, row):
    """The tracks with a hole at one of the rows from row - tail to row."""
    near = [rows[i] for i in range(row - tail, row + 1) if 0 <= i < len(rows)]
    return [track for track in range(width) if any(track in holes for holes in near)]


def tones_slowly(rows, width, tail):
    """The tones of a strip, put together from what sounds row by row."""
    found = []
    silent = {track: True for track in range(width)}
    for row in range(len(rows) + tail + 1):
        sounding = sounds_slowly(rows, width, tail, row)
        for track in range(width):
            if track in sounding and silent[track]:
                found.append([track, row, None])
            if track not in sounding and not silent[track]:
                [tone for tone in found if tone[0] == track][-1][2] = row
            silent[track] = track not in sounding
    return [tuple(tone) for tone in sorted(found, key=lambda tone: (tone[1], tone[0]))]


def chain_slowly(sounding, tail, longest, bridge):
    """The slots of a tone's chain, or None."""
    m = sounding - tail
    for k in range(1, m + 1):
        if k + (k - 1) * bridge <= m <= k * longest + (k - 1) * tail and (k == 1 or bridge <= tail):
            lengths = [0] * k
            bridges = [0] * (k - 1)
            between = max((k - 1) * bridge, m - k * longest)
            for row in range(m - between):
                lengths[row % k] += 1
            for row in range(between):
                bridges[row % (k - 1)] += 1
            return [(sum(lengths[:i]) + sum(bridges[:i]), lengths[i]) for i in range(k)]
    return None


def at_fault(wanted, n, width, rows, rules):
    track, first, end = wanted[n]
    if track >= width or end <= first or end > rows + rules[0]:
        return True
    if n > 0 and (first, track) <= (wanted[n - 1][1], wanted[n - 1][0]):
        return True
    if any(other[0] == track and other[2] >= first for other in wanted[:n]):
        return True
    return chain_slowly(end - first, *rules[:3]) is None


def rows_cut_slowly(rows, wanted, rules):
    """The rows of the strip that is cut from tones, each as a rising list of tracks."""
    made = [[] for row in range(rows)]
    for track, first, end in wanted:
        for begin, length in chain_slowly(end - first, *rules[:3]):
            for row in range(first + begin, first + begin + length):
                made[row] = sorted(made[row] + [track])
    return made


def cut_slowly(width, rows, wanted, rules):
    """What cut has to answer, if there is room and the numbers are in range, on an object without strips."""
    for n in range(len(wanted)):
        if at_fault(wanted, n, width, rows, rules):
            return uncut(n)
    judged = judged_slowly(rows_cut_slowly(rows, wanted, rules), width, *rules[1:])
    return number(0) if judged == number(0) else spoiled(*judged[1])
