"""sounds: the tracks that sound at a row."""

import random
import unittest

from tests.helper import ask, heard, number, paper, read, sounds, sounds_slowly, text_of_rows

FAR = 4294967295


class Sounds(unittest.TestCase):
    def heard_at(self, strip, tail, expected):
        """expected: by row, the tracks that sound there."""
        asked = [sounds(0, row) for row in expected]
        self.assertEqual(
            ask(read(strip), paper(tail, 9, 1, 9), *asked),
            [number(0), number(0)] + [heard(*tracks) for tracks in expected.values()], (strip, tail))

    def test_a_strip_without_rows(self):
        for tail in (0, 15):
            self.heard_at("strip 9\n", tail, {0: [], 1: [], 15: [], 16: [], FAR: []})

    def test_rows_without_holes(self):
        for tail in (0, 15):
            self.heard_at("strip 9\n20\n", tail, {0: [], 1: [], 19: [], 20: [], 34: [], 35: [], FAR: []})

    def test_without_a_tail(self):
        self.heard_at(
            "strip 9\n1 4\n1\n2 4 8\n1 0\n", 0,
            {0: [4], 1: [], 2: [4, 8], 3: [4, 8], 4: [0], 5: [], 6: [], FAR: []})

    def test_a_tail_of_two(self):
        self.heard_at(
            "strip 9\n1 4\n3\n1 0\n1\n", 2,
            {0: [4], 1: [4], 2: [4], 3: [], 4: [0], 5: [0], 6: [0], 7: [], FAR: []})

    def test_a_tail_of_fifteen(self):
        self.heard_at(
            "strip 9\n1 4\n1\n1 1\n", 15,
            {0: [4], 1: [4], 2: [1, 4], 15: [1, 4], 16: [1], 17: [1], 18: [], FAR: []})

    def test_the_last_row_and_the_rows_behind_it(self):
        self.heard_at(
            "strip 128\n254\n1 0\n1 127\n", 3,
            {0: [], 253: [], 254: [0], 255: [0, 127], 256: [0, 127], 257: [0, 127], 258: [127], 259: [], FAR: []})

    def test_a_row_sounds_by_itself_and_those_before_it_alone(self):
        self.heard_at("strip 9\n5\n1 3\n", 15, {0: [], 4: [], 5: [3], 20: [3], 21: []})

    def test_the_tracks_rise(self):
        self.heard_at("strip 9\n1 8\n1 3 7\n1 0 5\n", 5, {2: [0, 3, 5, 7, 8], 6: [0, 3, 5, 7], 7: [0, 5], 8: []})

    def test_a_track_is_told_once(self):
        self.heard_at("strip 9\n1 3\n1 3 5\n1 3\n1\n1 3\n", 9, {4: [3, 5]})

    def test_every_track(self):
        every = list(range(128))
        line = " ".join(str(track) for track in every)
        self.heard_at("strip 128\n256 %s\n" % line, 0, {0: every, 255: every, 256: [], FAR: []})
        self.heard_at("strip 128\n256 %s\n" % line, 15, {0: every, 255: every, 270: every, 271: [], FAR: []})

    def test_the_paper_of_the_moment(self):
        self.assertEqual(
            ask(read("strip 9\n1 3\n"), paper(0, 9, 1, 9), sounds(0, 1), paper(1, 9, 1, 9), sounds(0, 1),
                paper(0, 9, 1, 9), sounds(0, 1)),
            [number(0), number(0), heard(), number(0), heard(3), number(0), heard()])

    def test_each_strip_sounds_by_itself(self):
        self.assertEqual(
            ask(read("strip 9\n1 3\n"), read("strip 9\n1 5\n"), paper(0, 9, 1, 9), sounds(1, 0), sounds(0, 0)),
            [number(0), number(1), number(0), heard(5), heard(3)])

    def test_what_is_wrong_by_the_paper_sounds_too(self):
        self.assertEqual(
            ask(read("strip 9\n4 3 4 5\n"), paper(1, 1, 1, 1), sounds(0, 4), sounds(0, 5)),
            [number(0), number(0), heard(3, 4, 5), heard()])

    def test_many_strips_by_the_words(self):
        drawn = random.Random(51)
        for draw in range(300):
            width = drawn.choice((1, 2, 5, 9))
            rows = []
            for row in range(drawn.randrange(25)):
                same = rows and drawn.randrange(100) < 40
                rows.append(rows[-1] if same else [t for t in range(width) if drawn.randrange(100) < 20])
            tail = drawn.randrange(16)
            self.heard_at(
                text_of_rows(width, rows), tail,
                {row: sounds_slowly(rows, width, tail, row) for row in range(len(rows) + tail + 3)})


if __name__ == "__main__":
    unittest.main()
