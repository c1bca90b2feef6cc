"""read and text: strips come back as the texts they were read from."""

import unittest

from tests.helper import ask, number, read, rows_of, raw, text, told


def spelled(tracks):
    return "".join(" %d" % track for track in tracks)


class ReadAndText(unittest.TestCase):
    def comes_back(self, strip):
        self.assertEqual(ask(read(strip), text(0)), [number(0), told(strip)])

    def test_no_rows(self):
        for width in (1, 2, 9, 10, 88, 99, 100, 127, 128):
            self.comes_back("strip %d\n" % width)

    def test_one_row(self):
        for width in (1, 88, 128):
            self.comes_back("strip %d\n1\n" % width)
            self.comes_back("strip %d\n1 0\n" % width)
            self.comes_back("strip %d\n1 %d\n" % (width, width - 1))
            self.comes_back("strip %d\n1%s\n" % (width, spelled(range(width))))

    def test_256_rows_in_one_run(self):
        for width in (1, 88, 128):
            self.comes_back("strip %d\n256\n" % width)
            self.comes_back("strip %d\n256%s\n" % (width, spelled(range(width))))

    def test_256_rows_in_256_runs(self):
        self.comes_back("strip 1\n" + "1 0\n1\n" * 128)
        self.comes_back("strip 88\n" + "1\n1 3 40 87\n" * 128)
        self.comes_back("strip 128\n" + "1 0 1 2 127\n1 0 1 2 126\n" * 128)

    def test_256_rows_in_some_runs(self):
        self.comes_back("strip 88\n100 1\n155\n1 1\n")
        self.comes_back("strip 128\n1\n10 9 10 99 100\n245 127\n")

    def test_runs_that_differ_a_little(self):
        self.comes_back("strip 12\n1 1\n2 1 2\n3 1\n4\n5 1 2\n6 1 11\n7 11\n")

    def test_a_run_like_the_last_but_one(self):
        self.comes_back("strip 3\n1 0\n1 1\n1 0\n1\n1 0\n")

    def test_a_long_text(self):
        full = spelled(range(128))
        less = spelled(range(1, 128))
        strip = "strip 128\n" + ("1%s\n1%s\n" % (full, less)) * 36
        self.assertGreater(len(strip), 29000)
        self.assertLess(len(strip), 29990)
        self.comes_back(strip)

    def test_strips_are_numbered_as_they_came(self):
        first, second, third = "strip 1\n", "strip 88\n3 4 5\n", "strip 1\n"
        self.assertEqual(
            ask(read(first), read(second), text(1), read(third), text(0), text(2), text(1)),
            [number(0), number(1), told(second), number(2), told(first), told(third), told(second)])

    def test_no_paper_is_needed(self):
        self.assertEqual(ask(read("strip 5\n"), text(0)), [number(0), told("strip 5\n")])

    def test_text_tells_its_bytes_and_their_count(self):
        rows = rows_of(raw(read("strip 7\n2 6\n"), text(0)))
        self.assertEqual(rows[1], [12, 0, 12] + list(b"strip 7\n2 6\n"))


if __name__ == "__main__":
    unittest.main()
