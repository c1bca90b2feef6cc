"""The object that calls are made on: its strips and its paper.

Each call gives back its answer as the row of numbers that stands for it.
"""

from rollcut.chains import chain_slots
from rollcut.cutting import cut_strip, first_fault
from rollcut.judging import first_wrong
from rollcut.model import MOST_ROWS, MOST_TRACKS, Paper, Tone
from rollcut.sounding import sounding_tracks, strip_tones
from rollcut.texts import TextFault, read_strip, strip_text

MOST_STRIPS = 32
MOST_TONES = 512
MOST_SOUNDING_ROWS = 271
PAPER_RANGES = ((0, 15), (1, 65535), (1, 65535), (1, 128))

OUT_OF_RANGE = -1
NOT_TO_BE_CUT = -3
NO_STRIP = -4
NO_STRIP_TEXT = -6
NO_PAPER = -8
WRONG_STRIP = -9
NO_ROOM = -10


def answer(number, listed, text):
    """An answer's row; a refusal's list is told like any other."""
    if not listed and not text:
        return [number]
    return [number, len(listed)] + listed + [len(text)] + text


def told_wrong(wrong):
    return [wrong[2], wrong[0], wrong[1]]


def tones_from(numbers):
    return [Tone(numbers[k], numbers[k + 1], numbers[k + 2]) for k in range(0, len(numbers), 3)]


class Bench:
    """Strips, numbered as they came, and a paper, or None."""

    def __init__(self):
        self.strips = []
        self.paper = None

    def read(self, text):
        try:
            strip = read_strip(text)
        except TextFault as fault:
            return answer(NO_STRIP_TEXT, [fault.place], [])
        return self.keep(strip)

    def keep(self, strip):
        if len(self.strips) == MOST_STRIPS:
            return answer(NO_ROOM, [], [])
        self.strips.append(strip)
        return answer(len(self.strips) - 1, [], [])

    def tell_text(self, s):
        if s >= len(self.strips):
            return answer(NO_STRIP, [], [])
        text = strip_text(self.strips[s])
        return answer(len(text), [], text)

    def lay_paper(self, numbers):
        for number, ends in zip(numbers, PAPER_RANGES):
            if number < ends[0] or number > ends[1]:
                return answer(OUT_OF_RANGE, [], [])
        self.paper = Paper(numbers[0], numbers[1], numbers[2], numbers[3])
        return answer(0, [], [])

    def lacks(self, s):
        """The refusal of a call that needs a paper and strip s, or 0 if both are there."""
        if self.paper is None:
            return NO_PAPER
        if s >= len(self.strips):
            return NO_STRIP
        return 0

    def judge(self, s):
        refusal = self.lacks(s)
        if refusal < 0:
            return answer(refusal, [], [])
        wrong = first_wrong(self.strips[s], self.paper)
        if wrong is None:
            return answer(0, [], [])
        return answer(1, told_wrong(wrong), [])

    def tell_sounds(self, s, row):
        refusal = self.lacks(s)
        if refusal < 0:
            return answer(refusal, [], [])
        return answer(0, sounding_tracks(self.strips[s], self.paper.tail, row), [])

    def tell_tones(self, s):
        refusal = self.lacks(s)
        if refusal < 0:
            return answer(refusal, [], [])
        tones = strip_tones(self.strips[s], self.paper.tail)
        listed = []
        for tone in tones:
            listed.extend([tone.track, tone.first, tone.end])
        return answer(len(tones), listed, [])

    def tell_chain(self, rows):
        if self.paper is None:
            return answer(NO_PAPER, [], [])
        if rows > MOST_SOUNDING_ROWS:
            return answer(OUT_OF_RANGE, [], [])
        slots = chain_slots(rows, self.paper)
        if not slots:
            return answer(NOT_TO_BE_CUT, [], [])
        listed = []
        for slot in slots:
            listed.extend(slot)
        return answer(len(slots), listed, [])

    def cut(self, width, rows, numbers):
        """The tones stand one behind another as numbers: of each its track, its first row, its end."""
        if self.paper is None:
            return answer(NO_PAPER, [], [])
        tones = tones_from(numbers)
        if width < 1 or width > MOST_TRACKS or rows > MOST_ROWS or len(tones) > MOST_TONES:
            return answer(OUT_OF_RANGE, [], [])
        fault = first_fault(width, rows, tones, self.paper)
        if fault is not None:
            return answer(NOT_TO_BE_CUT, [fault], [])
        strip = cut_strip(width, rows, tones, self.paper)
        wrong = first_wrong(strip, self.paper)
        if wrong is not None:
            return answer(WRONG_STRIP, told_wrong(wrong), [])
        return self.keep(strip)
