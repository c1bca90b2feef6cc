"""What a strip, a paper and a tone are."""

MOST_TRACKS = 128
MOST_ROWS = 256


class Run:
    """Some rows one behind another with holes in the same tracks, which stand rising."""

    def __init__(self, rows, tracks):
        self.rows = rows
        self.tracks = tracks


class Strip:
    """A width and the rows, kept as runs; two runs one behind another differ in their tracks."""

    def __init__(self, width, runs):
        self.width = width
        self.runs = runs


class Paper:
    """The rules that strips sound, are cut and are judged by: G, H, B and N."""

    def __init__(self, tail, longest, bridge, near):
        self.tail = tail
        self.longest = longest
        self.bridge = bridge
        self.near = near


class Tone:
    """A track that sounds in all rows from the first to the one before the end."""

    def __init__(self, track, first, end):
        self.track = track
        self.first = first
        self.end = end
