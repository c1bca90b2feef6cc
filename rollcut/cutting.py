"""Strips that are cut from tones."""

from rollcut.chains import chain_slots
from rollcut.model import Run, Strip


def first_fault(width, rows, tones, paper):
    """The number of the first tone that can't be cut into a strip of that width and so many rows, or None."""
    before = None
    # By track: where its latest tone ends.
    ends = {}
    for place, tone in enumerate(tones):
        if not fits(tone, width, rows + paper.tail) or not chain_slots(tone.end - tone.first, paper):
            return place
        if before is not None and not stands_behind(tone, before):
            return place
        # The ends of a track's tones rise, so the latest stands for all before it.
        if tone.track in ends and ends[tone.track] >= tone.first:
            return place
        ends[tone.track] = tone.end
        before = tone
    return None


def fits(tone, width, last_end):
    return tone.track < width and tone.first < tone.end <= last_end


def stands_behind(tone, before):
    return (tone.first, tone.track) > (before.first, before.track)


def cut_strip(width, rows, tones, paper):
    """The strip whose holes are the tones' chains; none of the tones is at fault."""
    holes = [[] for row in range(rows)]
    for tone in tones:
        for slot in chain_slots(tone.end - tone.first, paper):
            cut_slot(holes, tone.track, tone.first + slot[0], slot[1])
    return strip_of_rows(width, [sorted(tracks) for tracks in holes])


def cut_slot(holes, track, first, length):
    for row in range(first, first + length):
        holes[row].append(track)


def strip_of_rows(width, rows):
    """The strip whose rows are told one by one, each by its holes' tracks, rising."""
    runs = []
    latest = None
    for tracks in rows:
        if latest is None or latest.tracks != tracks:
            latest = Run(0, tracks)
            runs.append(latest)
        latest.rows += 1
    return Strip(width, runs)
