"""chain: how many slots a tone is cut to, and which."""

import unittest

from tests.helper import ask, chain, chain_slowly, chained, number, paper

FAR = 4294967295
MOST = 271
TAILS = (0, 1, 2, 5, 15)
LONGEST = (1, 2, 3, 7, 100, 65535)
BRIDGES = (1, 2, 5, 15, 16, 65535)


def fewest_by_trying(tail, longest, bridge):
    """By rows from the first hole to the last: the fewest slots that make them, by trying every slot and bridge."""
    fewest = [None]
    for rows in range(1, MOST + 1):
        tried = [1] if rows <= longest else []
        for step in range(bridge + 1, min(tail + longest, rows - 1) + 1):
            # A step is a bridge and the slot behind it: of bridge to tail rows, and of 1 to longest rows.
            if bridge <= tail and fewest[rows - step] is not None:
                tried.append(1 + fewest[rows - step])
        fewest.append(min(tried, default=None))
    return fewest


class Chain(unittest.TestCase):
    def chains(self, rules, expected):
        """rules: G, H, B; expected: by rows, the slots, or the refusal."""
        given = [number(slots) if isinstance(slots, int) else chained(*slots) for slots in expected.values()]
        self.assertEqual(
            ask(paper(*rules, 2), *[chain(rows) for rows in expected]), [number(0)] + given, rules)

    def test_the_documents_examples(self):
        self.chains((2, 3, 1), {
            12: [(0, 3), (4, 3), (8, 2)], 2: -3, 3: [(0, 1)], 5: [(0, 3)], 6: [(0, 2), (3, 1)]})
        self.chains((1, 1, 2), {3: -3})

    def test_a_tone_no_longer_than_the_tail(self):
        for tail in (0, 1, 2, 14, 15):
            for rows in range(tail + 1):
                self.chains((tail, 9, 1), {rows: -3})
            self.chains((tail, 9, 1), {tail + 1: [(0, 1)], tail + 2: [(0, 2)]})

    def test_the_most_rows(self):
        self.chains((15, 65535, 1), {270: [(0, 255)], 271: [(0, 256)], 272: -1, 273: -1, FAR: -1})
        self.chains((0, 271, 1), {271: [(0, 271)], 272: -1})
        self.chains((0, 270, 1), {270: [(0, 270)], 271: -3, 272: -1})
        self.chains((2, 200, 1), {271: [(0, 134), (135, 134)], 272: -1})

    def test_a_bridge_above_the_tail(self):
        self.chains((1, 3, 2), {0: -3, 1: -3, 2: [(0, 1)], 4: [(0, 3)], 5: -3, 6: -3, 50: -3, 271: -3, 272: -1})
        self.chains((15, 3, 16), {18: [(0, 3)], 19: -3, 40: -3, 271: -3})
        self.chains((15, 256, 65535), {15: -3, 16: [(0, 1)], 271: [(0, 256)]})
        self.chains((0, 1, 1), {0: -3, 1: [(0, 1)], 2: -3, 3: -3, 271: -3})
        self.chains((0, 65535, 65535), {0: -3, 1: [(0, 1)], 271: [(0, 271)]})

    def test_a_bridge_of_the_tail(self):
        self.chains((2, 3, 2), {5: [(0, 3)], 6: [(0, 1), (3, 1)], 10: [(0, 3), (5, 3)], 11: [(0, 2), (4, 2), (8, 1)]})

    def test_fewer_rows_than_two_slots_and_a_bridge(self):
        # m = 4: k = 1: 4 <= 3: no; k = 2: 2 + 3 <= 4: no.
        self.chains((3, 3, 3), {6: [(0, 3)], 7: -3, 8: [(0, 1), (4, 1)]})

    def test_the_edges_between_two_and_three_slots(self):
        # One slot: m up to 3; two: up to 6 + 3; three: up to 9 + 6.
        self.chains((3, 3, 1), {
            6: [(0, 3)],
            7: [(0, 2), (3, 1)],
            10: [(0, 3), (4, 3)],
            11: [(0, 3), (5, 3)],
            12: [(0, 3), (6, 3)],
            13: [(0, 3), (4, 3), (8, 2)],
            14: [(0, 3), (4, 3), (8, 3)],
            15: [(0, 3), (5, 3), (9, 3)],
            16: [(0, 3), (5, 3), (10, 3)],
            17: [(0, 3), (6, 3), (11, 3)],
            18: [(0, 3), (6, 3), (12, 3)],
            19: [(0, 3), (5, 3), (9, 3), (13, 3)]})

    def test_slots_of_one_row(self):
        self.chains((1, 1, 1), {
            1: -3, 2: [(0, 1)], 3: -3, 4: [(0, 1), (2, 1)], 5: -3, 270: [(row, 1) for row in range(0, 269, 2)],
            271: -3})
        self.chains((15, 1, 1), {31: [(0, 1), (15, 1)], 32: [(0, 1), (16, 1)], 33: [(0, 1), (9, 1), (17, 1)]})

    def test_the_paper_of_the_moment(self):
        self.assertEqual(
            ask(paper(2, 3, 1, 2), chain(12), paper(2, 65535, 1, 2), chain(12), paper(12, 3, 1, 2), chain(12)),
            [number(0), chained((0, 3), (4, 3), (8, 2)), number(0), chained((0, 10)), number(0), number(-3)])

    def test_near_is_nothing_to_a_chain(self):
        for near in (1, 128):
            self.assertEqual(
                ask(paper(2, 3, 1, near), chain(6)), [number(0), chained((0, 2), (3, 1))])


class EveryChain(unittest.TestCase):
    """Every number of rows by many papers."""

    def for_every_paper(self, check):
        for tail in TAILS:
            for longest in LONGEST:
                for bridge in BRIDGES:
                    given = ask(paper(tail, longest, bridge, 1), *[chain(rows) for rows in range(MOST + 1)])
                    check(tail, longest, bridge, given[1:])

    def slots_of(self, answered):
        count, listed, spelled = answered
        self.assertEqual((len(listed), spelled), (2 * count, ""))
        return [tuple(listed[2 * k:2 * k + 2]) for k in range(count)]

    def test_slots_and_bridges(self):
        def check(tail, longest, bridge, given):
            for rows, answered in enumerate(given):
                if answered == number(-3):
                    continue
                slots = self.slots_of(answered)
                lengths = [length for first, length in slots]
                bridges = [slots[k][0] - sum(slots[k - 1]) for k in range(1, len(slots))]
                self.assertEqual(slots[0][0], 0)
                self.assertEqual(sum(slots[-1]) + tail, rows)
                self.assertTrue(all(1 <= length <= longest for length in lengths))
                self.assertTrue(all(bridge <= between <= tail for between in bridges))
                for shares in (lengths, bridges):
                    self.assertEqual(shares, sorted(shares, reverse=True))
                    self.assertLessEqual(max(shares, default=0) - min(shares, default=0), 1)
        self.for_every_paper(check)

    def test_no_fewer_slots_would_do(self):
        def check(tail, longest, bridge, given):
            fewest = fewest_by_trying(tail, longest, bridge)
            for rows, answered in enumerate(given):
                least = fewest[rows - tail] if rows > tail else None
                self.assertEqual(answered[0], -3 if least is None else least, (tail, longest, bridge, rows))
        self.for_every_paper(check)

    def test_by_the_words(self):
        def check(tail, longest, bridge, given):
            for rows, answered in enumerate(given):
                slots = chain_slowly(rows, tail, longest, bridge)
                self.assertEqual(
                    answered, number(-3) if slots is None else chained(*slots), (tail, longest, bridge, rows))
        self.for_every_paper(check)


if __name__ == "__main__":
    unittest.main()
