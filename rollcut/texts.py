"""Strips from their texts, and texts from their strips."""

from rollcut.model import MOST_ROWS, MOST_TRACKS, Run, Strip

HEAD = "strip "
BLANK = 32
LINE_END = 10
DIGIT_0 = 48
DIGIT_9 = 57


class TextFault(Exception):
    """A text is no strip's text: the place is the first where it can't be one."""

    def __init__(self, place):
        self.place = place


class Reader:
    """Goes through a text's bytes from the left; the place is that of the next byte.

    At the text's end the place is its length, so a fault there needs no care of its own.
    """

    def __init__(self, given):
        self.given = given
        self.place = 0

    def at_end(self):
        return self.place == len(self.given)

    def is_at(self, byte):
        return not self.at_end() and self.given[self.place] == byte

    def is_at_digit(self):
        return not self.at_end() and DIGIT_0 <= self.given[self.place] <= DIGIT_9

    def take(self, byte):
        if not self.is_at(byte):
            raise TextFault(self.place)
        self.place += 1

    def take_number(self, least, most):
        first = self.place
        value = 0
        while self.is_at_digit():
            # Once too high it stays so: very long numbers are not worked out.
            if value <= most:
                value = value * 10 + self.given[self.place] - DIGIT_0
            self.place += 1
        digits = self.place - first
        needless = digits > 1 and self.given[first] == DIGIT_0
        if digits == 0 or needless or value < least or value > most:
            raise TextFault(first)
        return value


def read_strip(given):
    """The strip of a text, which is a list of bytes; raises TextFault if it's no strip's text."""
    reader = Reader(given)
    for sign in HEAD:
        reader.take(ord(sign))
    width = reader.take_number(1, MOST_TRACKS)
    reader.take(LINE_END)
    runs = []
    rows_left = MOST_ROWS
    while not reader.at_end():
        run = take_run(reader, rows_left, width)
        if runs and runs[-1].tracks == run.tracks:
            raise TextFault(reader.place)
        reader.take(LINE_END)
        runs.append(run)
        rows_left -= run.rows
    return Strip(width, runs)


def take_run(reader, rows_left, width):
    """The run that a line tells, taken up to the line's end."""
    rows = reader.take_number(1, rows_left)
    tracks = []
    least = 0
    while reader.is_at(BLANK):
        reader.take(BLANK)
        track = reader.take_number(least, width - 1)
        tracks.append(track)
        least = track + 1
    return Run(rows, tracks)


def strip_text(strip):
    """A strip's text, as a list of bytes."""
    lines = [HEAD + str(strip.width) + "\n"]
    for run in strip.runs:
        lines.append(run_line(run))
    return [ord(sign) for sign in "".join(lines)]


def run_line(run):
    numbers = [run.rows] + run.tracks
    return " ".join([str(number) for number in numbers]) + "\n"
