"""The refusals: which comes first, and that what is refused changes nothing."""

import unittest

from tests.helper import ask, fault, judge, number, paper, read, text, told, wrong

FAR = 4294967295
RULES = paper(0, 1, 1, 1)


def strip_of(width):
    return "strip %d\n" % width


class NoPaper(unittest.TestCase):
    def test_before_a_paper_stands(self):
        self.assertEqual(ask(read(strip_of(1)), judge(0)), [number(0), number(-8)])

    def test_also_for_a_strip_that_is_not_there(self):
        self.assertEqual(ask(judge(0), judge(FAR)), [number(-8), number(-8)])

    def test_then_a_paper_is_laid(self):
        self.assertEqual(
            ask(judge(0), read(strip_of(1)), judge(0), RULES, judge(0)),
            [number(-8), number(0), number(-8), number(0), number(0)])


class NoStrip(unittest.TestCase):
    def test_text(self):
        self.assertEqual(
            ask(text(0), text(FAR), read(strip_of(1)), text(1), text(FAR), text(0)),
            [number(-4), number(-4), number(0), number(-4), number(-4), told(strip_of(1))])

    def test_judge(self):
        self.assertEqual(
            ask(RULES, judge(0), judge(FAR), read(strip_of(1)), judge(1), judge(FAR), judge(0)),
            [number(0), number(-4), number(-4), number(0), number(-4), number(-4), number(0)])


class NoRoom(unittest.TestCase):
    filled = [read(strip_of(width)) for width in range(1, 33)]
    numbered = [number(n) for n in range(32)]

    def test_the_33rd_strip(self):
        self.assertEqual(
            ask(*self.filled, read(strip_of(99)), read(strip_of(99))), self.numbered + [number(-10), number(-10)])

    def test_a_text_at_fault_comes_before(self):
        self.assertEqual(
            ask(*self.filled, read("strip 0\n"), read("")), self.numbered + [fault(6), fault(0)])

    def test_all_strips_are_still_there(self):
        asked = [text(n) for n in range(33)]
        kept = [told(strip_of(width)) for width in range(1, 33)] + [number(-4)]
        self.assertEqual(ask(*self.filled, read(strip_of(99)), *asked), self.numbered + [number(-10)] + kept)

    def test_the_last_strip_is_judged(self):
        self.assertEqual(
            ask(*self.filled, read(strip_of(99)), RULES, judge(31), judge(32)),
            self.numbered + [number(-10), number(0), number(0), number(-4)])


class NothingIsChanged(unittest.TestCase):
    """The object answers before and behind a refused call alike."""

    asked = [text(0), judge(0), text(1), judge(1), text(2), judge(2)]
    first = "strip 9\n2 0\n"
    second = "strip 9\n1 0\n"
    made = [read(first), read(second), RULES]
    state = [told(first), wrong(1, 1, 0), told(second), number(0), number(-4), number(-4)]

    def left_as_it_was(self, refused, refusal):
        self.assertEqual(
            ask(*self.made, *self.asked, refused, *self.asked, read("strip 7\n")),
            [number(0), number(1), number(0)] + self.state + [refusal] + self.state + [number(2)])

    def test_read(self):
        self.left_as_it_was(read(""), fault(0))
        self.left_as_it_was(read("strip 9\n1 0\n1 0\n"), fault(15))

    def test_text(self):
        self.left_as_it_was(text(2), number(-4))
        self.left_as_it_was(text(FAR), number(-4))

    def test_paper(self):
        self.left_as_it_was(paper(16, 9, 9, 9), number(-1))
        self.left_as_it_was(paper(0, 9, 9, 129), number(-1))

    def test_judge(self):
        self.left_as_it_was(judge(2), number(-4))

    def test_judge_without_a_paper(self):
        self.assertEqual(
            ask(read(self.first), judge(0), text(0), judge(0), read(self.second), text(1)),
            [number(0), number(-8), told(self.first), number(-8), number(1), told(self.second)])


if __name__ == "__main__":
    unittest.main()
