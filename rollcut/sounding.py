"""What a strip sounds."""

from rollcut.model import Tone


def sounding_tracks(strip, tail, row):
    """The tracks that sound at a row, rising."""
    tracks = []
    first = 0
    for run in strip.runs:
        behind = first + run.rows
        if first <= row and row - tail < behind:
            tracks.extend(run.tracks)
        first = behind
    return sorted(set(tracks))


def strip_tones(strip, tail):
    """A strip's tones: as they begin they come in order, since a run's tracks rise."""
    tones = []
    latest = {}
    row = 0
    for run in strip.runs:
        for track in run.tracks:
            tone = latest.get(track)
            # A hole at the end's row lets the tone go on: no row between is silent.
            if tone is None or tone.end < row:
                tone = Tone(track, row, row)
                latest[track] = tone
                tones.append(tone)
            tone.end = row + run.rows + tail
        row += run.rows
    return tones
