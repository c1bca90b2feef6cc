"""The object that calls are made on: its strips and its paper.

Each call gives back its answer as the row of numbers that stands for it.
"""

from rollcut.judging import first_wrong
from rollcut.model import Paper
from rollcut.texts import TextFault, read_strip, strip_text

MOST_STRIPS = 32
PAPER_RANGES = ((0, 15), (1, 65535), (1, 65535), (1, 128))

OUT_OF_RANGE = -1
NO_STRIP = -4
NO_STRIP_TEXT = -6
NO_PAPER = -8
NO_ROOM = -10


def answer(number, listed, text):
    """An answer's row; a refusal's list is told like any other."""
    if not listed and not text:
        return [number]
    return [number, len(listed)] + listed + [len(text)] + text


class Bench:
    """Strips, numbered as they came, and a paper, or None."""

    def __init__(self):
        self.strips = []
        self.paper = None

    def read(self, text):
        try:
            strip = read_strip(text)
        except TextFault as fault:
            return answer(NO_STRIP_TEXT, [fault.place], [])
        return self.keep(strip)

    def keep(self, strip):
        if len(self.strips) == MOST_STRIPS:
            return answer(NO_ROOM, [], [])
        self.strips.append(strip)
        return answer(len(self.strips) - 1, [], [])

    def tell_text(self, s):
        if s >= len(self.strips):
            return answer(NO_STRIP, [], [])
        text = strip_text(self.strips[s])
        return answer(len(text), [], text)

    def lay_paper(self, numbers):
        for number, ends in zip(numbers, PAPER_RANGES):
            if number < ends[0] or number > ends[1]:
                return answer(OUT_OF_RANGE, [], [])
        self.paper = Paper(numbers[0], numbers[1], numbers[2], numbers[3])
        return answer(0, [], [])

    def judge(self, s):
        if self.paper is None:
            return answer(NO_PAPER, [], [])
        if s >= len(self.strips):
            return answer(NO_STRIP, [], [])
        wrong = first_wrong(self.strips[s], self.paper)
        if wrong is None:
            return answer(0, [], [])
        return answer(1, [wrong[2], wrong[0], wrong[1]], [])
