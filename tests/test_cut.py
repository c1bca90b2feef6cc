"""cut: the strip whose holes are the tones' chains."""

import random
import unittest

from tests.helper import (
    ask, cut, cut_slowly, judge, number, paper, read, rows_cut_slowly, sounds, spoiled, text, text_of_rows, told, toned,
    tones, uncut)

FAR = 4294967295
LOOSE = (0, 65535, 1, 128)


class Cut(unittest.TestCase):
    def becomes(self, rules, width, rows, wanted, strip):
        """The tones are cut to the strip of that text, are told again, and nothing is wrong with it."""
        self.assertEqual(
            ask(paper(*rules), cut(width, rows, wanted), text(0), tones(0), judge(0), read(strip), text(1)),
            [number(0), number(0), told(strip), toned(*wanted), number(0), number(1), told(strip)])

    def test_no_tones(self):
        for rules in (LOOSE, (15, 1, 65535, 1)):
            self.becomes(rules, 1, 0, [], "strip 1\n")
            self.becomes(rules, 128, 0, [], "strip 128\n")
            self.becomes(rules, 88, 1, [], "strip 88\n1\n")
            self.becomes(rules, 128, 256, [], "strip 128\n256\n")

    def test_one_tone(self):
        self.becomes(LOOSE, 9, 5, [(4, 1, 3)], "strip 9\n1\n2 4\n2\n")
        self.becomes(LOOSE, 9, 3, [(4, 1, 3)], "strip 9\n1\n2 4\n")
        self.becomes((2, 3, 1, 1), 9, 3, [(4, 0, 5)], "strip 9\n3 4\n")
        self.becomes((2, 3, 1, 1), 9, 5, [(4, 0, 5)], "strip 9\n3 4\n2\n")
        self.becomes((2, 3, 1, 1), 9, 12, [(8, 1, 13)], "strip 9\n1\n3 8\n1\n3 8\n1\n2 8\n1\n")

    def test_the_whole_strip(self):
        self.becomes(LOOSE, 1, 256, [(0, 0, 256)], "strip 1\n256 0\n")
        self.becomes((15, 256, 1, 1), 128, 256, [(127, 0, 271)], "strip 128\n256 127\n")
        every = list(range(128))
        line = " ".join(str(track) for track in every)
        self.becomes(LOOSE, 128, 256, [(track, 0, 256) for track in every], "strip 128\n256 %s\n" % line)

    def test_an_end_behind_the_last_row(self):
        self.becomes((3, 9, 1, 1), 9, 5, [(4, 1, 8)], "strip 9\n1\n4 4\n")
        self.becomes((15, 9, 1, 1), 9, 1, [(4, 0, 16)], "strip 9\n1 4\n")

    def test_tracks_of_a_row_rise(self):
        self.becomes(LOOSE, 9, 3, [(8, 0, 3), (0, 1, 3), (4, 2, 3)], "strip 9\n1 8\n1 0 8\n1 0 4 8\n")
        self.becomes(LOOSE, 9, 2, [(0, 0, 2), (4, 0, 1), (8, 0, 2), (5, 1, 2)], "strip 9\n1 0 4 8\n1 0 5 8\n")

    def test_rows_with_the_same_holes_are_one_run(self):
        self.becomes(LOOSE, 9, 6, [(4, 0, 2), (5, 0, 6), (4, 3, 6)], "strip 9\n2 4 5\n1 5\n3 4 5\n")

    def test_many_tones_with_bridges(self):
        self.becomes(
            (2, 3, 1, 2), 9, 12, [(1, 0, 12), (3, 1, 14)],
            "strip 9\n1 1\n2 1 3\n1 3\n1 1\n2 1 3\n1 3\n1 1\n1 1 3\n2 3\n")

    def test_a_tone_behind_another_of_its_track(self):
        self.becomes((0, 9, 1, 1), 9, 5, [(4, 0, 2), (4, 3, 5)], "strip 9\n2 4\n1\n2 4\n")
        self.becomes((2, 9, 1, 1), 9, 5, [(4, 0, 3), (4, 4, 7)], "strip 9\n1 4\n3\n1 4\n")
        self.becomes((2, 9, 3, 1), 9, 5, [(4, 0, 3), (4, 4, 7)], "strip 9\n1 4\n3\n1 4\n")

    def test_512_tones(self):
        wanted = [(track, row, row + 1) for row in range(0, 8, 2) for track in range(128)]
        line = " ".join(str(track) for track in range(128))
        self.assertEqual(len(wanted), 512)
        self.becomes(LOOSE, 128, 7, wanted, "strip 128\n" + ("1 %s\n1\n" % line) * 3 + "1 %s\n" % line)

    def test_it_is_a_strip_like_one_that_is_read(self):
        self.assertEqual(
            ask(read("strip 3\n"), paper(1, 3, 1, 2), cut(9, 4, [(4, 0, 3)]), sounds(1, 2), sounds(1, 3),
                cut(9, 4, []), read("strip 7\n"), text(1), text(2), text(3), text(0)),
            [number(0), number(0), number(1), (0, [4], ""), number(0), number(2), number(3), told("strip 9\n2 4\n2\n"),
             told("strip 9\n4\n"), told("strip 7\n"), told("strip 3\n")])

    def test_the_paper_of_the_moment(self):
        wanted = [(4, 0, 6)]
        self.assertEqual(
            ask(paper(0, 9, 1, 1), cut(9, 6, wanted), paper(2, 3, 1, 1), cut(9, 6, wanted), paper(2, 3, 3, 1),
                cut(9, 6, wanted), text(0), text(1), text(2)),
            [number(0), number(0), number(0), number(1), number(0), uncut(0), told("strip 9\n6 4\n"),
             told("strip 9\n2 4\n1\n1 4\n2\n"), number(-4)])


class OutOfRange(unittest.TestCase):
    def refused(self, width, rows, wanted):
        self.assertEqual(ask(paper(*LOOSE), cut(width, rows, wanted), text(0)), [number(0), number(-1), number(-4)])

    def test_the_width(self):
        self.refused(0, 1, [])
        self.refused(129, 1, [])
        self.refused(FAR, 1, [])

    def test_the_rows(self):
        self.refused(1, 257, [])
        self.refused(1, FAR, [])

    def test_more_than_512_tones(self):
        for count in (513, 520):
            wanted = [(k % 128, 2 * (k // 128), 2 * (k // 128) + 1) for k in range(count)]
            self.refused(128, 256, wanted)
            self.refused(128, 256, [(0, 0, 0)] * count)

    def test_it_comes_before_a_tone_at_fault(self):
        self.refused(0, 1, [(0, 0, 1)])
        self.refused(129, 1, [(129, 0, 0)])
        self.refused(1, 257, [(1, 9, 9)])


class ToneAtFault(unittest.TestCase):
    """By the paper G 2, H 3, B 1, N 9: tones into 20 rows of 9 tracks."""

    rules = paper(2, 3, 1, 9)
    before = [(4, 0, 3), (4, 4, 8), (2, 5, 9)]
    behind = [(8, 17, 20), (3, 18, 22)]

    def at_fault(self, tone, rules=rules):
        """The tone is at fault as the first, a middle and the last one, each time the first that is."""
        self.assertEqual(
            ask(rules, cut(9, 20, [tone]), cut(9, 20, [tone] + self.behind), cut(9, 20, self.before + [tone]),
                cut(9, 20, self.before + [tone] + self.behind), cut(9, 20, self.before + [tone, tone, (9, 0, 0)]),
                text(0)),
            [number(0), uncut(0), uncut(0), uncut(3), uncut(3), uncut(3), number(-4)])

    def follows(self, tone, expected):
        """The tone behind the ones before it."""
        self.assertEqual(ask(self.rules, cut(9, 20, self.before + [tone])), [number(0), expected])

    def test_no_fault(self):
        self.assertEqual(
            ask(self.rules, cut(9, 20, self.before + self.behind), tones(0)),
            [number(0), number(0), toned(*self.before, *self.behind)])
        self.follows((8, 6, 10), number(0))

    def test_the_track(self):
        self.follows((8, 9, 12), number(0))
        self.at_fault((9, 9, 12))
        self.at_fault((128, 9, 12))
        self.at_fault((FAR, 9, 12))

    def test_an_end_not_above_the_first_row(self):
        self.at_fault((5, 9, 9))
        self.at_fault((5, 9, 8))
        self.at_fault((5, 9, 0))
        self.at_fault((5, FAR, FAR))
        self.at_fault((5, FAR, 0))

    def test_an_end_behind_what_can_sound(self):
        self.follows((5, 17, 22), number(0))
        self.at_fault((5, 17, 23))
        self.at_fault((5, 19, 23))
        self.at_fault((5, 9, FAR))
        self.at_fault((5, FAR - 9, FAR))

    def test_the_most_rows_and_the_most_tail(self):
        for tail in (0, 15):
            self.assertEqual(
                ask(paper(tail, 999, 1, 1), cut(1, 256, [(0, 0, 256 + tail)]), cut(1, 256, [(0, 0, 257 + tail)]),
                    cut(1, 0, [(0, 0, tail)]), cut(1, 0, [(0, 0, tail + 1)])),
                [number(0), number(0), uncut(0), uncut(0), uncut(0)])

    def test_the_order_by_first_row(self):
        self.follows((8, 5, 9), number(0))
        self.follows((8, 4, 9), uncut(3))
        self.follows((8, 0, 4), uncut(3))
        self.assertEqual(
            ask(self.rules, cut(9, 20, [(8, 6, 9), (0, 5, 9), (0, 0, 9)]),
                cut(9, 20, [(1, 5, 9), (2, 6, 10), (3, 5, 9), (4, 7, 10)])),
            [number(0), uncut(1), uncut(2)])

    def test_the_order_by_track(self):
        self.follows((3, 5, 9), number(0))
        self.follows((1, 5, 9), uncut(3))
        self.follows((2, 5, 9), uncut(3))
        self.assertEqual(
            ask(self.rules, cut(9, 20, [(5, 6, 9), (5, 6, 9)]), cut(9, 20, [(5, 6, 9), (4, 6, 9), (3, 6, 9)])),
            [number(0), uncut(1), uncut(1)])

    def test_a_tone_of_its_track_before_it(self):
        # Track 4 ends at row 8 before, track 2 at row 9.
        self.follows((4, 7, 12), uncut(3))
        self.follows((4, 8, 12), uncut(3))
        self.follows((4, 9, 12), number(0))
        self.follows((2, 8, 12), uncut(3))
        self.follows((2, 9, 12), uncut(3))
        self.follows((2, 10, 13), number(0))

    def test_a_tone_of_its_track_far_before_it(self):
        long = [(0, 0, 15)] + [(track, track, track + 3) for track in range(1, 9)]
        for first, expected in ((13, uncut(9)), (15, uncut(9)), (16, number(0))):
            self.assertEqual(
                ask(self.rules, cut(9, 20, long + [(0, first, first + 3)])), [number(0), expected])

    def test_without_a_tail(self):
        for first, expected in ((1, uncut(1)), (2, uncut(1)), (3, number(0))):
            self.assertEqual(
                ask(paper(*LOOSE), cut(9, 20, [(4, 0, 2), (4, first, 9)])), [number(0), expected])

    def test_it_can_not_be_cut(self):
        # m is below 1.
        self.follows((5, 9, 12), number(0))
        self.at_fault((5, 9, 11))
        self.at_fault((5, 9, 10))
        # m = 4: two slots and their bridge need more rows, or the bridge is above the tail.
        self.assertEqual(
            ask(paper(3, 3, 3, 9), cut(9, 20, [(4, 0, 6), (5, 0, 7)]),
                paper(2, 3, 3, 9), cut(9, 20, [(4, 0, 5), (5, 0, 6)])),
            [number(0), uncut(1), number(0), uncut(1)])

    def test_the_first_of_several(self):
        self.assertEqual(
            ask(self.rules, cut(9, 20, [(0, 0, 3), (1, 0, 1), (9, 0, 3)]),
                cut(9, 20, [(0, 0, 3), (9, 0, 3), (1, 0, 1)]),
                cut(9, 20, [(0, 0, 3), (1, 5, 8), (0, 3, 6), (1, 8, 99)])),
            [number(0), uncut(1), uncut(1), uncut(2)])

    def test_the_512th_tone(self):
        wanted = [(track, row, row + 1) for row in range(0, 8, 2) for track in range(128)]
        for last, expected in ((wanted[511], number(0)), ((127, 6, 8), uncut(511)), ((128, 6, 7), uncut(511))):
            self.assertEqual(
                ask(paper(*LOOSE), cut(128, 7, wanted[:511] + [last])), [number(0), expected])

    def test_it_comes_before_what_would_be_wrong(self):
        self.assertEqual(
            ask(paper(0, 9, 1, 1), cut(9, 20, [(0, 0, 1), (1, 0, 1)]), cut(9, 20, [(0, 0, 1), (1, 0, 1), (9, 5, 6)])),
            [number(0), spoiled(3, 0, 1), uncut(2)])


class WrongStrip(unittest.TestCase):
    def wrong_by(self, rules, wanted, expected):
        self.assertEqual(ask(paper(*rules), cut(9, 20, wanted), text(0)), [number(0), expected, number(-4)])

    def test_too_few_rows_between(self):
        # Between the last hole of the one and the first of the other are 3 + G rows.
        for tail in (0, 2, 15):
            wanted = [(4, 0, 1 + tail), (4, 4 + tail, 5 + 2 * tail)]
            self.wrong_by((tail, 9, 4 + tail, 9), wanted, spoiled(2, 4 + tail, 4))
            self.wrong_by((tail, 9, 65535, 9), wanted, spoiled(2, 4 + tail, 4))
            self.assertEqual(ask(paper(tail, 9, 3 + tail, 9), cut(9, 20, wanted)), [number(0), number(0)])

    def test_too_many_side_by_side(self):
        wanted = [(3, 2, 4), (4, 2, 5), (5, 3, 4)]
        self.wrong_by((0, 9, 1, 1), wanted, spoiled(3, 2, 4))
        self.wrong_by((0, 9, 1, 2), wanted, spoiled(3, 3, 5))
        self.assertEqual(ask(paper(0, 9, 1, 3), cut(9, 20, wanted)), [number(0), number(0)])

    def test_side_by_side_where_holes_are_not_where_it_only_sounds(self):
        wanted = [(3, 0, 3), (4, 1, 4)]
        self.assertEqual(ask(paper(2, 9, 1, 1), cut(9, 20, wanted)), [number(0), number(0)])
        self.wrong_by((0, 9, 1, 1), wanted, spoiled(3, 1, 4))

    def test_the_first_of_all(self):
        wanted = [(0, 0, 1), (7, 0, 1), (7, 2, 3), (0, 3, 4), (1, 3, 4)]
        self.wrong_by((0, 9, 2, 1), wanted, spoiled(2, 2, 7))
        self.wrong_by((0, 9, 1, 1), wanted, spoiled(3, 3, 1))
        self.wrong_by((0, 9, 3, 1), wanted, spoiled(2, 2, 7))
        # In a row the lower track, of one hole the lower kind.
        self.wrong_by((0, 9, 3, 1), [(0, 0, 1), (0, 3, 4), (7, 3, 4), (8, 3, 4)], spoiled(2, 3, 0))
        self.wrong_by((0, 9, 3, 1), [(8, 0, 1), (4, 3, 4), (5, 3, 4), (8, 3, 4)], spoiled(3, 3, 5))
        self.wrong_by((0, 9, 3, 1), [(8, 0, 1), (7, 3, 4), (8, 3, 4)], spoiled(2, 3, 8))


class ManyCuts(unittest.TestCase):
    """Tones that are drawn, in order, some of them at fault."""

    def drawn_tones(self, drawn, width, rows, tail, faults):
        wanted = []
        ends = {}
        for row in range(rows):
            for track in range(width):
                rested = row > ends.get(track, -1) or drawn.randrange(100) < faults
                if rested and drawn.randrange(100) < 12:
                    most = rows + tail if drawn.randrange(100) >= faults else rows + tail + 2
                    least = row + tail + 1 if drawn.randrange(100) >= faults else row
                    if least <= most:
                        ends[track] = drawn.randint(least, min(most, least + 14))
                        wanted.append((track, row, ends[track]))
        if wanted and drawn.randrange(100) < faults:
            place = drawn.randrange(len(wanted))
            wanted.insert(drawn.randrange(len(wanted)), wanted.pop(place))
        return wanted

    def drawn_rules(self, drawn):
        tail = drawn.choice((0, 1, 2, 3, 5, 15))
        longest = drawn.choice((1, 2, 3, 5, 9, 65535))
        return (tail, longest, drawn.choice((1, 1, 2, 3, 9, 16)), drawn.choice((1, 2, 3, 128)))

    def test_by_the_words(self):
        drawn = random.Random(81)
        met = {}
        for draw in range(2500):
            rules = self.drawn_rules(drawn)
            width = drawn.choice((1, 2, 4, 7))
            rows = drawn.randrange(36)
            wanted = self.drawn_tones(drawn, width, rows, rules[0], drawn.choice((0, 0, 3)))
            expected = cut_slowly(width, rows, wanted, rules)
            given = ask(paper(*rules), cut(width, rows, wanted), text(0), tones(0), judge(0))
            self.assertEqual(given[1], expected, (rules, width, rows, wanted))
            if expected == number(0):
                strip = text_of_rows(width, rows_cut_slowly(rows, wanted, rules))
                self.assertEqual(given[2:], [told(strip), toned(*wanted), number(0)])
                self.assertEqual(ask(read(strip), text(0)), [number(0), told(strip)])
            else:
                self.assertEqual(given[2:], [number(-4)] * 3)
            kind = (expected[0], expected[1][0] if expected[0] == -9 else bool(wanted))
            met[kind] = met.get(kind, 0) + 1
        for kind in ((0, True), (0, False), (-3, True), (-9, 2), (-9, 3)):
            self.assertGreater(met[kind], 50, met)
        # No slot of a chain is too long.
        self.assertNotIn((-9, 1), met)

    def test_it_sounds_as_its_tones_just_these(self):
        """C1, row by row."""
        drawn = random.Random(82)
        cuts = 0
        for draw in range(400):
            rules = self.drawn_rules(drawn)[:2] + (1, 128)
            wanted = self.drawn_tones(drawn, 5, 30, rules[0], 0)
            asked = [sounds(0, row) for row in range(30 + rules[0] + 3)]
            given = ask(paper(*rules), cut(5, 30, wanted), *asked)[1:]
            if given[0] == number(0):
                cuts += 1
                for row, answered in enumerate(given[1:]):
                    self.assertEqual(
                        answered, (0, sorted(track for track, first, end in wanted if first <= row < end), ""))
        self.assertGreater(cuts, 50)


if __name__ == "__main__":
    unittest.main()
