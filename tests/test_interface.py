"""rollcut.strips.answers: the list that is handed in and the one that is given back."""

import unittest

import rollcut.strips
from tests.helper import judge, paper, raw, read, text

EVERY_FORM = (
    judge(0), text(0), read("strip 3\n1 0 1 2\n"), read("strip x\n"), read(""), text(0),
    paper(2, 3, 1, 2), paper(2, 0, 1, 2), judge(0), judge(1), read("strip 3\n"), judge(1))


def handed_in(*calls):
    return [number for call in calls for number in call]


class Form(unittest.TestCase):
    def test_read(self):
        self.assertEqual(raw(read("strip 3\n")), [1, 0])

    def test_read_at_fault(self):
        self.assertEqual(raw(read("strip x\n")), [4, -6, 1, 6, 0])

    def test_read_at_fault_in_its_first_place(self):
        self.assertEqual(raw(read("")), [4, -6, 1, 0, 0])

    def test_text(self):
        self.assertEqual(raw(read("strip 3\n"), text(0)), [1, 0, 11, 8, 0, 8] + list(b"strip 3\n"))

    def test_paper(self):
        self.assertEqual(raw(paper(2, 3, 1, 2), paper(16, 3, 1, 2)), [1, 0, 1, -1])

    def test_judge(self):
        self.assertEqual(
            raw(paper(2, 3, 1, 2), read("strip 3\n"), read("strip 3\n1 0 1 2\n"), judge(0), judge(1), judge(2)),
            [1, 0, 1, 0, 1, 1, 1, 0, 6, 1, 3, 3, 0, 2, 0, 1, -4])

    def test_call_by_call(self):
        spelled = list(b"strip 3\n1 0 1 2\n")
        self.assertEqual(
            raw(*EVERY_FORM),
            [1, -8, 1, -4, 1, 0, 4, -6, 1, 6, 0, 4, -6, 1, 0, 0, 19, 16, 0, 16] + spelled
            + [1, 0, 1, -1, 6, 1, 3, 3, 0, 2, 0, 1, -4, 1, 1, 1, 0])

    def test_whole_numbers_and_a_list(self):
        given = raw(*EVERY_FORM)
        self.assertIs(list, given.__class__)
        for one in given:
            self.assertIs(int, one.__class__)

    def test_bytes_of_a_text_are_not_taken_for_calls(self):
        self.assertEqual(raw(read([1, 2, 3, 4]), text(0)), [4, -6, 1, 0, 0, 1, -4])


class HandedIn(unittest.TestCase):
    def test_it_is_the_same_afterwards(self):
        calls = handed_in(*EVERY_FORM)
        before = list(calls)
        rollcut.strips.answers(calls)
        self.assertEqual(calls, before)

    def test_it_is_not_changed_for_a_while_either(self):
        class Fixed(list):
            def changed(self, *given):
                raise AssertionError("the list is changed")
            __setitem__ = __delitem__ = __iadd__ = __imul__ = changed
            append = clear = extend = insert = pop = remove = reverse = sort = changed

        calls = handed_in(*EVERY_FORM)
        self.assertEqual(rollcut.strips.answers(Fixed(calls)), rollcut.strips.answers(calls))

    def test_what_is_given_back_is_another_list(self):
        calls = handed_in(*EVERY_FORM)
        given = rollcut.strips.answers(calls)
        kept = list(given)
        given.clear()
        self.assertEqual(rollcut.strips.answers(calls), kept)


class NothingIsKept(unittest.TestCase):
    def test_a_second_time_answers_as_the_first(self):
        self.assertEqual(raw(*EVERY_FORM), raw(*EVERY_FORM))

    def test_strips_are_gone(self):
        raw(*[read("strip 3\n")] * 32)
        self.assertEqual(raw(text(0), read("strip 4\n")), [1, -4, 1, 0])

    def test_the_paper_is_gone(self):
        raw(paper(2, 3, 1, 2))
        self.assertEqual(raw(judge(0)), [1, -8])


class Size(unittest.TestCase):
    def test_400_calls(self):
        calls = [read("strip 3\n2 1\n"), paper(0, 1, 1, 1)] + [judge(0)] * 398
        self.assertEqual(raw(*calls), [1, 0, 1, 0] + [6, 1, 3, 1, 1, 1, 0] * 398)

    def test_a_text_of_29990_bytes(self):
        self.assertEqual(raw(read([49] * 29990)), [4, -6, 1, 0, 0])
        self.assertEqual(raw(read(list(b"strip 3\n1 ") + [49] * 29980)), [4, -6, 1, 10, 0])

    def test_many_judged_strips_of_256_full_rows(self):
        tracks = " ".join(str(track) for track in range(128))
        strip = read("strip 128\n256 %s\n" % tracks)
        calls = [strip, paper(15, 256, 1, 128)] + [judge(0)] * 398
        self.assertEqual(raw(*calls), [1, 0] * 400)


if __name__ == "__main__":
    unittest.main()
