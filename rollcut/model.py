"""What a strip and a paper are."""

MOST_TRACKS = 128
MOST_ROWS = 256


class Run:
    """Some rows one behind another with holes in the same tracks, which stand rising."""

    def __init__(self, rows, tracks):
        self.rows = rows
        self.tracks = tracks


class Strip:
    """A width and the rows, kept as runs; two runs one behind another differ in their tracks."""

    def __init__(self, width, runs):
        self.width = width
        self.runs = runs


class Paper:
    """The rules that strips are judged by: G, H, B and N."""

    def __init__(self, tail, longest, bridge, near):
        self.tail = tail
        self.longest = longest
        self.bridge = bridge
        self.near = near
