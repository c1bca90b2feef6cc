"""tones: a strip's tones, in order."""

import random
import unittest

from tests.helper import ask, number, paper, read, sounds, text_of_rows, toned, tones, tones_slowly


class Tones(unittest.TestCase):
    def told_for(self, strip, tail, *expected):
        self.assertEqual(
            ask(read(strip), paper(tail, 9, 1, 9), tones(0)), [number(0), number(0), toned(*expected)], (strip, tail))

    def test_none(self):
        for tail in (0, 15):
            self.told_for("strip 9\n", tail)
            self.told_for("strip 9\n256\n", tail)

    def test_without_a_tail(self):
        self.told_for("strip 9\n1 4\n", 0, (4, 0, 1))
        self.told_for("strip 9\n2\n3 4\n1\n", 0, (4, 2, 5))
        self.told_for("strip 9\n1 4\n1\n1 4\n", 0, (4, 0, 1), (4, 2, 3))

    def test_behind_the_last_row(self):
        self.told_for("strip 9\n1 4\n", 1, (4, 0, 2))
        self.told_for("strip 9\n1 4\n", 15, (4, 0, 16))
        self.told_for("strip 9\n3\n2 4\n1 8\n", 2, (4, 3, 7), (8, 5, 8))
        self.told_for("strip 9\n3 4\n1\n", 2, (4, 0, 5))

    def test_rows_between_two_slots(self):
        self.told_for("strip 9\n2 4\n2\n3 4\n", 3, (4, 0, 10))
        self.told_for("strip 9\n2 4\n3\n3 4\n", 3, (4, 0, 11))
        self.told_for("strip 9\n2 4\n4\n3 4\n", 3, (4, 0, 5), (4, 6, 12))
        self.told_for("strip 9\n1 4\n14\n1 4\n", 15, (4, 0, 31))
        self.told_for("strip 9\n1 4\n15\n1 4\n", 15, (4, 0, 32))
        self.told_for("strip 9\n1 4\n16\n1 4\n", 15, (4, 0, 16), (4, 17, 33))

    def test_three_slots(self):
        self.told_for("strip 9\n1 4\n1\n1 4\n2\n1 4\n", 1, (4, 0, 4), (4, 5, 7))
        self.told_for("strip 9\n1 4\n2\n1 4\n1\n1 4\n", 1, (4, 0, 2), (4, 3, 7))

    def test_a_slot_that_goes_on_through_several_runs(self):
        self.told_for("strip 9\n1 4\n1 4 6\n1 2 4\n", 0, (4, 0, 3), (6, 1, 2), (2, 2, 3))

    def test_the_same_first_row(self):
        self.told_for("strip 9\n1 0 4 8\n", 0, (0, 0, 1), (4, 0, 1), (8, 0, 1))
        self.told_for("strip 9\n1 8\n1 0 4 8\n1 4\n", 0, (8, 0, 2), (0, 1, 2), (4, 1, 3))

    def test_by_first_row_not_by_end(self):
        self.told_for("strip 9\n1 5\n1 2 5\n1 5\n", 1, (5, 0, 4), (2, 1, 3))

    def test_256_rows(self):
        self.told_for("strip 128\n256 0\n", 15, (0, 0, 271))
        self.told_for("strip 128\n255\n1 127\n", 15, (127, 255, 271))
        self.told_for("strip 128\n255\n1 127\n", 0, (127, 255, 256))
        self.told_for("strip 1\n" + "1 0\n1\n" * 128, 0, *[(0, row, row + 1) for row in range(0, 256, 2)])
        self.told_for("strip 1\n" + "1 0\n1\n" * 128, 1, (0, 0, 256))

    def test_every_track(self):
        line = " ".join(str(track) for track in range(128))
        self.told_for("strip 128\n256 %s\n" % line, 2, *[(track, 0, 258) for track in range(128)])

    def test_the_paper_of_the_moment(self):
        self.assertEqual(
            ask(read("strip 9\n1 3\n1\n1 3\n"), paper(0, 9, 1, 9), tones(0), paper(1, 9, 1, 9), tones(0),
                paper(0, 9, 1, 9), tones(0)),
            [number(0), number(0), toned((3, 0, 1), (3, 2, 3)), number(0), toned((3, 0, 4)),
             number(0), toned((3, 0, 1), (3, 2, 3))])

    def test_each_strip_by_itself(self):
        self.assertEqual(
            ask(read("strip 9\n1 3\n"), read("strip 9\n1 5\n"), paper(0, 9, 1, 9), tones(1), tones(0)),
            [number(0), number(1), number(0), toned((5, 0, 1)), toned((3, 0, 1))])

    def test_what_is_wrong_by_the_paper_is_told_too(self):
        self.assertEqual(
            ask(read("strip 9\n4 3 4\n1\n1 3\n"), paper(0, 1, 9, 1), tones(0)),
            [number(0), number(0), toned((3, 0, 4), (4, 0, 4), (3, 5, 6))])


class TonesAreWhatSounds(unittest.TestCase):
    """C2: the rows of the tones that are told are just those at which sounds answers their tracks."""

    def drawn_rows(self, drawn, width, most):
        rows = []
        for row in range(drawn.randrange(most)):
            same = rows and drawn.randrange(100) < 40
            rows.append(rows[-1] if same else [t for t in range(width) if drawn.randrange(100) < 15])
        return rows

    def test_row_by_row(self):
        drawn = random.Random(61)
        for draw in range(200):
            width = drawn.choice((1, 2, 5, 9))
            rows = self.drawn_rows(drawn, width, 50)
            tail = drawn.choice((0, 1, 2, 3, 7, 15))
            asked = [sounds(0, row) for row in range(len(rows) + tail + 3)]
            given = ask(read(text_of_rows(width, rows)), paper(tail, 9, 1, 9), tones(0), *asked)[2:]
            count, listed = given[0][:2]
            told = [tuple(listed[3 * k:3 * k + 3]) for k in range(count)]
            self.assertEqual(len(listed), 3 * count)
            for row, answered in enumerate(given[1:]):
                self.assertEqual(
                    answered, (0, sorted(track for track, first, end in told if first <= row < end), ""))
            for track, first, end in told:
                # At a tone's end, and in the row before it, its track is silent: no tone is told in two parts.
                self.assertNotIn(track, given[1 + end][1])
                self.assertFalse(first > 0 and track in given[first][1])
            self.assertEqual(told, sorted(told, key=lambda tone: (tone[1], tone[0])))

    def test_by_the_words(self):
        drawn = random.Random(62)
        for draw in range(300):
            width = drawn.choice((1, 2, 5, 9))
            rows = self.drawn_rows(drawn, width, 40)
            tail = drawn.choice((0, 1, 2, 3, 7, 15))
            self.assertEqual(
                ask(read(text_of_rows(width, rows)), paper(tail, 9, 1, 9), tones(0))[2],
                toned(*tones_slowly(rows, width, tail)), (rows, tail))

    def test_a_strip_of_256_rows(self):
        drawn = random.Random(63)
        for tail in (0, 1, 4, 15):
            rows = [[t for t in range(9) if drawn.randrange(100) < 12] for row in range(256)]
            told = tones_slowly(rows, 9, tail)
            self.assertEqual(
                ask(read(text_of_rows(9, rows)), paper(tail, 9, 1, 9), tones(0))[2], toned(*told))


if __name__ == "__main__":
    unittest.main()
