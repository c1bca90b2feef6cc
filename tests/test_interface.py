"""rollcut.strips.answers: the list that is handed in and the one that is given back."""

import unittest

import rollcut.strips
from tests.helper import ask, chain, cut, judge, paper, raw, read, sounds, text, tones

EVERY_FORM = (
    judge(0), text(0), read("strip 3\n1 0 1 2\n"), read("strip x\n"), read(""), text(0),
    paper(2, 3, 1, 2), paper(2, 0, 1, 2), judge(0), judge(1), read("strip 3\n"), judge(1),
    sounds(0, 2), sounds(0, 3), sounds(2, 0), tones(0), tones(1), tones(2), chain(6), chain(2), chain(272),
    cut(4, 3, [(1, 0, 5), (3, 0, 3)]), cut(0, 3, []), cut(4, 3, [(1, 0, 5), (3, 0, 2)]),
    cut(4, 3, [(1, 0, 3), (2, 0, 3), (3, 0, 3)]), text(2))


def handed_in(*calls):
    return [number for call in calls for number in call]


class Form(unittest.TestCase):
    def test_read(self):
        self.assertEqual(raw(read("strip 3\n")), [1, 0])

    def test_read_at_fault(self):
        self.assertEqual(raw(read("strip x\n")), [4, -6, 1, 6, 0])

    def test_read_at_fault_in_its_first_place(self):
        self.assertEqual(raw(read("")), [4, -6, 1, 0, 0])

    def test_text(self):
        self.assertEqual(raw(read("strip 3\n"), text(0)), [1, 0, 11, 8, 0, 8] + list(b"strip 3\n"))

    def test_paper(self):
        self.assertEqual(raw(paper(2, 3, 1, 2), paper(16, 3, 1, 2)), [1, 0, 1, -1])

    def test_judge(self):
        self.assertEqual(
            raw(paper(2, 3, 1, 2), read("strip 3\n"), read("strip 3\n1 0 1 2\n"), judge(0), judge(1), judge(2)),
            [1, 0, 1, 0, 1, 1, 1, 0, 6, 1, 3, 3, 0, 2, 0, 1, -4])

    def test_sounds(self):
        self.assertEqual(
            raw(paper(1, 3, 1, 2), read("strip 9\n1 4 8\n"), sounds(0, 0), sounds(0, 1), sounds(0, 2), sounds(1, 0)),
            [1, 0, 1, 0, 5, 0, 2, 4, 8, 0, 5, 0, 2, 4, 8, 0, 1, 0, 1, -4])

    def test_tones(self):
        self.assertEqual(
            raw(paper(1, 3, 1, 2), read("strip 9\n1 4 8\n"), read("strip 9\n"), tones(0), tones(1), tones(2)),
            [1, 0, 1, 0, 1, 1, 9, 2, 6, 4, 0, 2, 8, 0, 2, 0, 1, 0, 1, -4])

    def test_chain(self):
        self.assertEqual(
            raw(paper(2, 3, 1, 2), chain(12), chain(3), chain(2), chain(272)),
            [1, 0, 9, 3, 6, 0, 3, 4, 3, 8, 2, 0, 5, 1, 2, 0, 1, 0, 1, -3, 1, -1])

    def test_cut(self):
        self.assertEqual(
            raw([3, 0, 9, 1, 1], [8, 9, 4, 3, 5, 1, 3], [8, 9, 4, 0], [8, 9, 4, 3, 5, 1, 1],
                [8, 9, 4, 6, 5, 1, 3, 6, 2, 3], [8, 0, 4, 0], [2, 0]),
            [1, 0, 1, 0, 1, 1, 4, -3, 1, 0, 0, 6, -9, 3, 3, 2, 6, 0, 1, -1, 19, 16, 0, 16]
            + list(b"strip 9\n1\n2 5\n1\n"))

    def test_call_by_call(self):
        spelled = list(b"strip 3\n1 0 1 2\n")
        self.assertEqual(
            raw(*EVERY_FORM),
            [1, -8, 1, -4, 1, 0, 4, -6, 1, 6, 0, 4, -6, 1, 0, 0, 19, 16, 0, 16] + spelled
            + [1, 0, 1, -1, 6, 1, 3, 3, 0, 2, 0, 1, -4, 1, 1, 1, 0]
            + [6, 0, 3, 0, 1, 2, 0, 1, 0, 1, -4, 12, 3, 9, 0, 0, 3, 1, 0, 3, 2, 0, 3, 0, 1, 0, 1, -4]
            + [7, 2, 4, 0, 2, 3, 1, 0, 1, -3, 1, -1, 1, 2, 1, -1, 4, -3, 1, 1, 0, 6, -9, 3, 3, 0, 3, 0]
            + [21, 18, 0, 18] + list(b"strip 4\n1 1 3\n2 1\n"))

    def test_whole_numbers_and_a_list(self):
        given = raw(*EVERY_FORM)
        self.assertIs(list, given.__class__)
        for one in given:
            self.assertIs(int, one.__class__)

    def test_bytes_of_a_text_are_not_taken_for_calls(self):
        self.assertEqual(raw(read([1, 2, 3, 4]), text(0)), [4, -6, 1, 0, 0, 1, -4])

    def test_numbers_of_tones_are_not_taken_for_calls(self):
        self.assertEqual(raw(paper(1, 3, 1, 2), [8, 9, 9, 3, 2, 3, 5], text(1)), [1, 0, 1, 0, 1, -4])


class HandedIn(unittest.TestCase):
    def test_it_is_the_same_afterwards(self):
        calls = handed_in(*EVERY_FORM)
        before = list(calls)
        rollcut.strips.answers(calls)
        self.assertEqual(calls, before)

    def test_it_is_not_changed_for_a_while_either(self):
        class Fixed(list):
            def changed(self, *given):
                raise AssertionError("the list is changed")
            __setitem__ = __delitem__ = __iadd__ = __imul__ = changed
            append = clear = extend = insert = pop = remove = reverse = sort = changed

        calls = handed_in(*EVERY_FORM)
        self.assertEqual(rollcut.strips.answers(Fixed(calls)), rollcut.strips.answers(calls))

    def test_what_is_given_back_is_another_list(self):
        calls = handed_in(*EVERY_FORM)
        given = rollcut.strips.answers(calls)
        kept = list(given)
        given.clear()
        self.assertEqual(rollcut.strips.answers(calls), kept)


class NothingIsKept(unittest.TestCase):
    def test_a_second_time_answers_as_the_first(self):
        self.assertEqual(raw(*EVERY_FORM), raw(*EVERY_FORM))

    def test_strips_are_gone(self):
        raw(*[read("strip 3\n")] * 32)
        self.assertEqual(raw(text(0), read("strip 4\n")), [1, -4, 1, 0])

    def test_strips_that_were_cut_are_gone(self):
        self.assertEqual(raw(paper(2, 3, 1, 2), *[cut(9, 9, [(4, 0, 6)])] * 32)[-2:], [1, 31])
        self.assertEqual(raw(text(0), paper(2, 3, 1, 2), cut(9, 9, [])), [1, -4, 1, 0, 1, 0])

    def test_the_paper_is_gone(self):
        raw(paper(2, 3, 1, 2))
        self.assertEqual(raw(judge(0), tones(0), chain(3), cut(9, 9, [])), [1, -8] * 4)


class Size(unittest.TestCase):
    def test_400_calls(self):
        calls = [read("strip 3\n2 1\n"), paper(0, 1, 1, 1)] + [judge(0)] * 398
        self.assertEqual(raw(*calls), [1, 0, 1, 0] + [6, 1, 3, 1, 1, 1, 0] * 398)

    def test_a_text_of_29990_bytes(self):
        self.assertEqual(raw(read([49] * 29990)), [4, -6, 1, 0, 0])
        self.assertEqual(raw(read(list(b"strip 3\n1 ") + [49] * 29980)), [4, -6, 1, 10, 0])

    def test_many_judged_strips_of_256_full_rows(self):
        tracks = " ".join(str(track) for track in range(128))
        strip = read("strip 128\n256 %s\n" % tracks)
        calls = [strip, paper(15, 256, 1, 128)] + [judge(0)] * 398
        self.assertEqual(raw(*calls), [1, 0] * 400)

    def test_400_calls_of_every_form(self):
        calls = [paper(2, 3, 1, 2), read("strip 9\n1 4\n")]
        calls += [chain(3), sounds(0, 1), tones(0), judge(0), text(0), cut(0, 0, []), read("x")] * 56
        calls += [cut(9, 9, [(1, 0, 3)])] * 6
        given = ask(*calls)
        self.assertEqual(len(calls), 400)
        self.assertEqual(
            given,
            [(0, [], ""), (0, [], "")]
            + [(1, [0, 1], ""), (0, [4], ""), (1, [4, 0, 3], ""), (0, [], ""), (12, [], "strip 9\n1 4\n"),
               (-1, [], ""), (-6, [0], "")] * 56
            + [(n, [], "") for n in range(1, 7)])

    def test_30000_numbers(self):
        # 19 cuts of 512 tones, most of them refused for the last tone's end, and a text at fault.
        wanted = [(track, row, row + 1) for row in range(0, 8, 2) for track in range(128)]
        faulty = wanted[:511] + [(127, 6, 8)]
        calls = [paper(0, 1, 1, 128), cut(128, 7, wanted)] + [cut(128, 7, faulty)] * 18 + [tones(0)]
        left = 30000 - len(handed_in(*calls)) - 2
        calls.append(read([120] * left))
        self.assertEqual(len(handed_in(*calls)), 30000)
        self.assertEqual(
            ask(*calls),
            [(0, [], ""), (0, [], "")] + [(-3, [511], "")] * 18
            + [(512, [n for tone in wanted for n in tone], ""), (-6, [0], "")])

    def test_nearly_a_million_numbers_are_answered(self):
        strip = "strip 40\n" + ("1 %s\n1\n" % " ".join(str(track) for track in range(40))) * 128
        calls = [read(strip), paper(0, 1, 1, 128)] + [tones(0)] * 65
        listed = [n for row in range(0, 256, 2) for track in range(40) for n in (track, row, row + 1)]
        self.assertEqual(
            raw(*calls), [1, 0, 1, 0] + ([len(listed) + 3, 5120, len(listed)] + listed + [0]) * 65)

    def test_many_full_strips_are_cut(self):
        wanted = [(track, 0, 271) for track in range(128)]
        calls = [paper(15, 1, 1, 128)] + [cut(128, 256, wanted)] * 32 + [cut(128, 256, wanted)] * 44
        self.assertLessEqual(len(handed_in(*calls)), 30000)
        self.assertEqual(raw(*calls), [1, 0] + [n for k in range(32) for n in (1, k)] + [1, -10] * 44)


if __name__ == "__main__":
    unittest.main()
