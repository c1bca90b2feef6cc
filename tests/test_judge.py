"""judge: what is wrong first with a strip by the paper."""

import random
import unittest

from tests.helper import ask, judge, judged_slowly, number, paper, read, text_of_rows, wrong


class Judge(unittest.TestCase):
    def judged(self, strip, rules, expected):
        self.assertEqual(
            ask(read(strip), paper(*rules), judge(0)), [number(0), number(0), expected], (strip, rules))

    def test_the_documents_example(self):
        self.judged("strip 3\n1 0 1 2\n", (2, 3, 1, 2), wrong(3, 0, 2))

    def test_nothing_wrong(self):
        strictest = (0, 1, 65535, 1)
        self.judged("strip 1\n", strictest, number(0))
        self.judged("strip 128\n256\n", strictest, number(0))
        self.judged("strip 128\n1 0 2 127\n", strictest, number(0))
        self.judged("strip 128\n1 5\n1 6\n1 7\n", strictest, number(0))

    def test_the_longest(self):
        self.judged("strip 9\n3 4\n", (0, 3, 1, 1), number(0))
        self.judged("strip 9\n4 4\n", (0, 3, 1, 1), wrong(1, 3, 4))
        self.judged("strip 9\n2 4\n", (0, 1, 1, 1), wrong(1, 1, 4))
        self.judged("strip 9\n7\n200 8\n", (0, 3, 1, 1), wrong(1, 10, 8))
        self.judged("strip 9\n256 0\n", (0, 256, 1, 1), number(0))
        self.judged("strip 9\n256 0\n", (0, 255, 1, 1), wrong(1, 255, 0))
        self.judged("strip 9\n256 0\n", (0, 65535, 1, 1), number(0))

    def test_a_slot_that_goes_on_through_several_runs(self):
        strip = "strip 9\n1 4\n1 4 6\n1 4 8\n1 4\n"
        self.judged(strip, (0, 4, 1, 1), number(0))
        self.judged(strip, (0, 3, 1, 1), wrong(1, 3, 4))
        self.judged(strip, (0, 2, 1, 1), wrong(1, 2, 4))

    def test_a_new_slot_is_counted_anew(self):
        self.judged("strip 9\n3 4\n1\n3 4\n", (0, 3, 1, 1), number(0))
        self.judged("strip 9\n3 4\n1\n4 4\n", (0, 3, 1, 1), wrong(1, 7, 4))

    def test_the_bridge(self):
        self.judged("strip 9\n1 4\n3\n1 4\n", (0, 9, 3, 1), number(0))
        self.judged("strip 9\n1 4\n2\n1 4\n", (0, 9, 3, 1), wrong(2, 3, 4))
        self.judged("strip 9\n1 4\n1\n1 4\n", (0, 9, 1, 1), number(0))
        self.judged("strip 9\n1 4\n1\n1 4\n", (0, 9, 2, 1), wrong(2, 2, 4))
        self.judged("strip 9\n1 4\n254\n1 4\n", (0, 9, 254, 1), number(0))
        self.judged("strip 9\n1 4\n254\n1 4\n", (0, 9, 255, 1), wrong(2, 255, 4))
        self.judged("strip 9\n1 4\n254\n1 4\n", (0, 9, 65535, 1), wrong(2, 255, 4))

    def test_the_bridge_is_of_the_slot_before_alone(self):
        self.judged("strip 9\n1 4\n3\n1 4\n1\n1 4\n", (0, 9, 2, 1), wrong(2, 6, 4))
        self.judged("strip 9\n1 4\n1\n1 5\n", (0, 9, 9, 1), number(0))
        self.judged("strip 9\n1 4\n1 6\n1 8\n1 4\n", (0, 9, 2, 1), number(0))
        self.judged("strip 9\n1 4\n1 6\n1 8\n1 4\n", (0, 9, 3, 1), wrong(2, 3, 4))

    def test_no_bridge_is_asked_before_the_first_slot(self):
        self.judged("strip 9\n1\n1 4\n", (0, 9, 65535, 1), number(0))
        self.judged("strip 9\n1 4\n1 4 6\n", (0, 9, 65535, 1), number(0))

    def test_the_tail_is_nothing_to_judge(self):
        for tail in (0, 15):
            self.judged("strip 9\n3 4\n2\n3 4\n", (tail, 3, 2, 1), number(0))
            self.judged("strip 9\n3 4\n2\n4 4\n", (tail, 3, 2, 1), wrong(1, 8, 4))

    def test_near(self):
        self.judged("strip 9\n1 3 4\n", (0, 9, 1, 2), number(0))
        self.judged("strip 9\n1 3 4 5\n", (0, 9, 1, 2), wrong(3, 0, 5))
        self.judged("strip 9\n1 3 4 6 7\n", (0, 9, 1, 2), number(0))
        self.judged("strip 9\n1 0 1\n", (0, 9, 1, 1), wrong(3, 0, 1))
        self.judged("strip 9\n1 1 3 4 6 7 8\n", (0, 9, 1, 2), wrong(3, 0, 8))
        every = "strip 128\n1 " + " ".join(str(track) for track in range(128)) + "\n"
        self.judged(every, (0, 9, 1, 128), number(0))
        self.judged(every, (0, 9, 1, 127), wrong(3, 0, 127))
        self.judged(every, (0, 9, 1, 1), wrong(3, 0, 1))

    def test_near_is_of_one_row(self):
        self.judged("strip 9\n1 3\n1 4\n1 5\n", (0, 9, 1, 1), number(0))
        self.judged("strip 9\n1 8\n1 0\n", (0, 9, 1, 1), number(0))

    def test_the_earlier_row_comes_first(self):
        # kind 3 in row 2 and track 7, kind 1 in row 3 and track 0
        self.judged("strip 9\n2 0\n2 0 6 7\n", (0, 3, 1, 1), wrong(3, 2, 7))
        # kind 1 in row 3 and track 8, kind 3 in row 4 and track 1
        self.judged("strip 9\n4 8\n1 0 1\n", (0, 3, 1, 1), wrong(1, 3, 8))
        # kind 2 in row 2 and track 8, kind 1 in row 3 and track 0
        self.judged("strip 9\n1 0 8\n1 0\n2 0 8\n", (0, 3, 2, 1), wrong(2, 2, 8))
        # two of kind 1 in one run, the one in the higher track earlier
        self.judged("strip 9\n1 8\n9 2 8\n", (0, 3, 1, 1), wrong(1, 3, 8))

    def test_in_a_row_the_lower_track_comes_first(self):
        # kind 3 in track 1, kind 1 in track 8
        self.judged("strip 9\n3 8\n1 0 1 8\n", (0, 3, 1, 1), wrong(3, 3, 1))
        # kind 1 in track 0, kind 3 in track 8
        self.judged("strip 9\n3 0\n1 0 7 8\n", (0, 3, 1, 1), wrong(1, 3, 0))
        # kind 3 in track 1, kind 2 in track 8
        self.judged("strip 9\n1 8\n1\n1 0 1 8\n", (0, 3, 2, 1), wrong(3, 2, 1))
        # kind 2 in track 0, kind 1 in track 8
        self.judged("strip 9\n1 0 8\n2 8\n1 0 8\n", (0, 3, 3, 1), wrong(2, 3, 0))
        # two of one kind
        self.judged("strip 9\n4 0 8\n", (0, 3, 1, 1), wrong(1, 3, 0))
        self.judged("strip 9\n1 0 8\n1\n1 0 8\n", (0, 3, 2, 1), wrong(2, 2, 0))
        self.judged("strip 9\n1 0 1 7 8\n", (0, 3, 2, 1), wrong(3, 0, 1))

    def test_of_one_hole_the_lowest_kind(self):
        # kinds 1 and 3 in track 5
        self.judged("strip 9\n3 5\n1 4 5\n", (0, 3, 1, 1), wrong(1, 3, 5))
        # kinds 2 and 3 in track 5
        self.judged("strip 9\n1 5\n1\n1 4 5\n", (0, 3, 2, 1), wrong(2, 2, 5))

    def test_judging_changes_nothing(self):
        strip = read("strip 9\n4 8\n1 0 1\n")
        rules = paper(0, 3, 1, 1)
        self.assertEqual(
            ask(strip, rules, judge(0), judge(0), judge(0)), [number(0), number(0)] + [wrong(1, 3, 8)] * 3)

    def test_each_strip_is_judged_by_itself(self):
        self.assertEqual(
            ask(read("strip 3\n1 0 1\n"), read("strip 3\n1 0\n"), read("strip 3\n2 1\n"), paper(0, 1, 1, 1),
                judge(2), judge(1), judge(0)),
            [number(0), number(1), number(2), number(0), wrong(1, 1, 1), number(0), wrong(3, 0, 1)])

    def test_many_strips_as_judged_hole_by_hole(self):
        drawn = random.Random(20)
        kinds = {}
        for draw in range(1500):
            width = drawn.choice((1, 2, 3, 5, 8))
            full = drawn.choice((20, 50, 80))
            rows = []
            for row in range(drawn.randrange(14)):
                same = rows and drawn.randrange(100) < 50
                rows.append(rows[-1] if same else [t for t in range(width) if drawn.randrange(100) < full])
            rules = (drawn.randrange(16), drawn.randint(1, 6), drawn.randint(1, 4), drawn.randint(1, 4))
            expected = judged_slowly(rows, width, *rules[1:])
            self.judged(text_of_rows(width, rows), rules, expected)
            kind = expected[1][0] if expected[1] else 0
            kinds[kind] = kinds.get(kind, 0) + 1
        for kind in range(4):
            self.assertGreater(kinds[kind], 50)


if __name__ == "__main__":
    unittest.main()
