"""The refusals: which comes first, and that what is refused changes nothing."""

import unittest

from tests.helper import (
    ask, chain, chained, cut, fault, heard, judge, number, paper, read, sounds, spoiled, text, told, toned, tones,
    uncut, wrong)

FAR = 4294967295
RULES = paper(0, 1, 1, 1)


def strip_of(width):
    return "strip %d\n" % width


class NoPaper(unittest.TestCase):
    # The calls that need a paper, also with what would be refused by one.
    asked = [
        judge(0), judge(1), judge(FAR), sounds(0, 0), sounds(1, 0), sounds(FAR, FAR), tones(0), tones(1), tones(FAR),
        chain(1), chain(0), chain(272), chain(FAR), cut(9, 9, []), cut(0, 9, []), cut(9, 257, []),
        cut(9, 9, [(9, 0, 0)]), cut(9, 9, [(0, 0, 1)] * 513), cut(9, 9, [(0, 0, 1), (1, 0, 1)])]
    refused = [number(-8)] * len(asked)

    def test_before_a_paper_stands(self):
        self.assertEqual(ask(read("strip 1\n"), *self.asked), [number(0)] + self.refused)

    def test_also_for_strips_that_are_not_there(self):
        self.assertEqual(ask(*self.asked), self.refused)

    def test_also_when_32_strips_are_there(self):
        self.assertEqual(
            ask(*[read("strip 1\n")] * 32, cut(9, 9, [])), [number(n) for n in range(32)] + [number(-8)])

    def test_a_paper_out_of_range_is_none(self):
        self.assertEqual(ask(paper(16, 1, 1, 1), *self.asked), [number(-1)] + self.refused)

    def test_then_a_paper_is_laid(self):
        self.assertEqual(
            ask(read("strip 9\n1 5\n"), *self.asked, RULES, judge(0), sounds(0, 0), tones(0), chain(1), cut(9, 9, [])),
            [number(0)] + self.refused
            + [number(0), number(0), heard(5), toned((5, 0, 1)), chained((0, 1)), number(1)])


class NoStrip(unittest.TestCase):
    def test_text(self):
        self.assertEqual(
            ask(text(0), text(FAR), read(strip_of(1)), text(1), text(FAR), text(0)),
            [number(-4), number(-4), number(0), number(-4), number(-4), told(strip_of(1))])

    def test_by_the_paper(self):
        for call in (judge, tones, lambda s: sounds(s, 0), lambda s: sounds(s, FAR)):
            self.assertEqual(
                ask(RULES, call(0), call(FAR), read(strip_of(1)), call(1), call(32), call(FAR), call(0)),
                [number(0), number(-4), number(-4), number(0), number(-4), number(-4), number(-4), number(0)])

    def test_a_strip_that_is_cut_is_there(self):
        self.assertEqual(
            ask(RULES, cut(1, 0, []), text(0), judge(0), tones(0), sounds(0, 0), text(1)),
            [number(0), number(0), told(strip_of(1)), number(0), number(0), number(0), number(-4)])


class NoRoom(unittest.TestCase):
    filled = [read(strip_of(width)) for width in range(1, 33)]
    numbered = [number(n) for n in range(32)]

    def test_the_33rd_strip(self):
        self.assertEqual(
            ask(*self.filled, read(strip_of(99)), read(strip_of(99))), self.numbered + [number(-10), number(-10)])

    def test_a_text_at_fault_comes_before(self):
        self.assertEqual(
            ask(*self.filled, read("strip 0\n"), read("")), self.numbered + [fault(6), fault(0)])

    def test_all_strips_are_still_there(self):
        asked = [text(n) for n in range(33)]
        kept = [told(strip_of(width)) for width in range(1, 33)] + [number(-4)]
        self.assertEqual(ask(*self.filled, read(strip_of(99)), *asked), self.numbered + [number(-10)] + kept)

    def test_the_33rd_strip_is_cut(self):
        self.assertEqual(
            ask(RULES, *self.filled, cut(9, 9, []), cut(9, 9, [(4, 0, 1)]), text(32)),
            [number(0)] + self.numbered + [number(-10), number(-10), number(-4)])

    def test_the_32nd_strip_is_cut(self):
        self.assertEqual(
            ask(RULES, *self.filled[:31], cut(9, 9, []), cut(9, 9, []), read("strip 1\n"), text(31)),
            [number(0)] + self.numbered + [number(-10), number(-10), told("strip 9\n9\n")])

    def test_what_else_is_refused_in_cut_comes_before(self):
        self.assertEqual(
            ask(RULES, *self.filled, cut(0, 9, []), cut(9, 257, []), cut(9, 9, [(0, 0, 1)] * 513),
                cut(9, 9, [(0, 0, 1), (9, 0, 1)]), cut(9, 9, [(0, 0, 1), (1, 0, 1)])),
            [number(0)] + self.numbered + [number(-1), number(-1), number(-1), uncut(1), spoiled(3, 0, 1)])

    def test_strips_that_are_not_there_and_chains_need_no_room(self):
        self.assertEqual(
            ask(RULES, *self.filled, tones(32), sounds(32, 0), chain(1), tones(31), sounds(31, 0)),
            [number(0)] + self.numbered + [number(-4), number(-4), chained((0, 1)), number(0), number(0)])

    def test_the_last_strip_is_judged(self):
        self.assertEqual(
            ask(*self.filled, read(strip_of(99)), RULES, judge(31), judge(32)),
            self.numbered + [number(-10), number(0), number(0), number(-4)])


class NothingIsChanged(unittest.TestCase):
    """The object answers before and behind a refused call alike."""

    asked = [text(0), judge(0), tones(0), text(1), judge(1), sounds(1, 0), text(2), judge(2), chain(1), chain(2)]
    first = "strip 9\n2 0\n"
    second = "strip 9\n1 0\n"
    made = [read(first), read(second), RULES]
    state = [
        told(first), wrong(1, 1, 0), toned((0, 0, 2)), told(second), number(0), heard(0), number(-4), number(-4),
        chained((0, 1)), number(-3)]

    def left_as_it_was(self, refused, refusal):
        self.assertEqual(
            ask(*self.made, *self.asked, refused, *self.asked, read("strip 7\n")),
            [number(0), number(1), number(0)] + self.state + [refusal] + self.state + [number(2)])

    def test_read(self):
        self.left_as_it_was(read(""), fault(0))
        self.left_as_it_was(read("strip 9\n1 0\n1 0\n"), fault(15))

    def test_text(self):
        self.left_as_it_was(text(2), number(-4))
        self.left_as_it_was(text(FAR), number(-4))

    def test_paper(self):
        self.left_as_it_was(paper(16, 9, 9, 9), number(-1))
        self.left_as_it_was(paper(0, 9, 9, 129), number(-1))

    def test_judge(self):
        self.left_as_it_was(judge(2), number(-4))

    def test_sounds(self):
        self.left_as_it_was(sounds(2, 0), number(-4))
        self.left_as_it_was(sounds(FAR, FAR), number(-4))

    def test_tones(self):
        self.left_as_it_was(tones(2), number(-4))
        self.left_as_it_was(tones(FAR), number(-4))

    def test_chain(self):
        self.left_as_it_was(chain(0), number(-3))
        self.left_as_it_was(chain(271), number(-3))
        self.left_as_it_was(chain(272), number(-1))

    def test_cut(self):
        self.left_as_it_was(cut(0, 9, []), number(-1))
        self.left_as_it_was(cut(9, 257, []), number(-1))
        self.left_as_it_was(cut(9, 9, [(0, 0, 1)] * 513), number(-1))
        self.left_as_it_was(cut(9, 9, [(0, 0, 1), (2, 0, 2)]), uncut(1))
        self.left_as_it_was(cut(9, 9, [(0, 0, 1), (2, 0, 1), (3, 0, 1)]), spoiled(3, 0, 3))

    def test_no_room(self):
        filled = [read("strip 9\n1 0\n")] * 32
        asked = [call for n in range(33) for call in (text(n), tones(n))]
        state = [told("strip 9\n1 0\n"), toned((0, 0, 1))] * 32 + [number(-4)] * 2
        given = [number(n) for n in range(32)] + [number(0)]
        for refused in (read("strip 9\n"), cut(9, 9, [(4, 0, 1)])):
            self.assertEqual(
                ask(*filled, RULES, *asked, refused, *asked), given + state + [number(-10)] + state)

    def test_without_a_paper(self):
        refused = [judge(0), sounds(0, 0), tones(0), chain(1), cut(9, 9, [])]
        self.assertEqual(
            ask(read(self.first), *refused, text(0), *refused, read(self.second), text(1), text(2)),
            [number(0)] + [number(-8)] * 5 + [told(self.first)] + [number(-8)] * 5
            + [number(1), told(self.second), number(-4)])


if __name__ == "__main__":
    unittest.main()
