"""paper: its four ranges, and which paper stands."""

import unittest

from tests.helper import ask, judge, number, paper, read, wrong

RANGES = ((0, 15), (1, 65535), (1, 65535), (1, 128))
MIDDLE = [2, 3, 1, 2]
FAR = 4294967295


def with_one(place, value):
    numbers = list(MIDDLE)
    numbers[place] = value
    return paper(*numbers)


class Ranges(unittest.TestCase):
    def test_both_ends_are_taken(self):
        for place, ends in enumerate(RANGES):
            for value in ends:
                self.assertEqual(ask(with_one(place, value)), [number(0)], (place, value))

    def test_all_ends_together(self):
        self.assertEqual(ask(paper(0, 1, 1, 1), paper(15, 65535, 65535, 128)), [number(0), number(0)])

    def test_just_outside_is_refused(self):
        for place, ends in enumerate(RANGES):
            for value in (ends[0] - 1, ends[1] + 1, FAR):
                if value >= 0:
                    self.assertEqual(ask(with_one(place, value)), [number(-1)], (place, value))

    def test_several_outside_at_once(self):
        self.assertEqual(ask(paper(16, 0, 0, 0), paper(FAR, FAR, FAR, FAR)), [number(-1), number(-1)])


class WhichPaperStands(unittest.TestCase):
    strip = read("strip 3\n1 0 1 2\n")
    near_2 = paper(0, 9, 1, 2)
    near_3 = paper(0, 9, 1, 3)

    def test_a_refused_first_paper_is_none(self):
        for place, ends in enumerate(RANGES):
            refused = with_one(place, ends[1] + 1)
            self.assertEqual(ask(self.strip, refused, judge(0)), [number(0), number(-1), number(-8)])

    def test_a_refused_paper_leaves_the_one_before(self):
        for place, ends in enumerate(RANGES):
            numbers = [0, 1, 1, 3]
            numbers[place] = ends[1] + 1
            self.assertEqual(
                ask(self.strip, self.near_2, paper(*numbers), judge(0)),
                [number(0), number(0), number(-1), wrong(3, 0, 2)])

    def test_a_second_paper_takes_the_place_of_the_first(self):
        self.assertEqual(
            ask(self.strip, self.near_2, judge(0), self.near_3, judge(0), self.near_2, judge(0)),
            [number(0), number(0), wrong(3, 0, 2), number(0), number(0), number(0), wrong(3, 0, 2)])

    def test_a_second_paper_brings_all_its_numbers(self):
        strip = read("strip 1\n2 0\n1\n1 0\n")
        self.assertEqual(
            ask(strip, paper(0, 2, 1, 1), judge(0), paper(0, 1, 1, 1), judge(0), paper(0, 2, 2, 1), judge(0)),
            [number(0), number(0), number(0), number(0), wrong(1, 1, 0), number(0), wrong(2, 3, 0)])


if __name__ == "__main__":
    unittest.main()
