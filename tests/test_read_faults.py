"""read refuses what is no strip's text, and tells the first place where it can't be one."""

import unittest

from tests.helper import ask, fault, number, read, text

GOOD = "strip 12\n3 0 11\n2\n251 5\n"


class Faults(unittest.TestCase):
    def at(self, strip, place):
        self.assertEqual(ask(read(strip), text(0)), [fault(place), number(-4)], repr(strip)[:60])

    def test_the_empty_text(self):
        self.at("", 0)

    def test_another_byte_in_the_head(self):
        for place in range(6):
            for byte in "S", "x", "0", "\n", "\t", "\0":
                self.at(GOOD[:place] + byte + GOOD[place + 1:], place)
        self.at(" strip 1\n", 0)
        self.at("strips 1\n", 5)
        self.at("strip\n", 5)

    def test_a_width_that_is_missing(self):
        self.at("strip \n", 6)
        self.at("strip  1\n", 6)
        self.at("strip -1\n", 6)
        self.at("strip +1\n", 6)
        self.at("strip x", 6)
        self.at("strip /1\n", 6)
        self.at("strip :1\n", 6)

    def test_another_byte_behind_the_width(self):
        self.at("strip 12 \n", 8)
        self.at("strip 12x", 8)
        self.at("strip 12\r\n", 8)
        self.at("strip 1.\n", 7)
        self.at("strip 1/\n", 7)
        self.at("strip 1:\n", 7)
        self.at("strip 1_2\n", 7)

    def test_something_missing_at_the_end(self):
        for short in range(len(GOOD)):
            if GOOD[short - 1:short] != "\n":
                self.at(GOOD[:short], short)

    def test_an_end_behind_a_blank(self):
        self.at("strip ", 6)
        self.at("strip 3\n1 ", 10)
        self.at("strip 3\n1 1 ", 12)

    def test_a_needless_0_at_the_width(self):
        self.at("strip 01\n", 6)
        self.at("strip 00\n", 6)
        self.at("strip 0128\n", 6)
        self.at("strip 07", 6)

    def test_a_width_out_of_its_range(self):
        for width in ("0", "129", "130", "200", "999", "1000", "1280", "4294967297"):
            self.at("strip %s\n" % width, 6)
            self.at("strip %s" % width, 6)
            self.at("strip %sx" % width, 6)

    def test_a_line_that_does_not_begin_with_a_number(self):
        self.at("strip 3\n\n", 8)
        self.at("strip 3\n 1\n", 8)
        self.at("strip 3\nx", 8)
        self.at("strip 3\n1 2\n\n", 12)
        self.at("strip 3\n1 2\n-1\n", 12)

    def test_another_byte_behind_a_number_of_rows(self):
        self.at("strip 3\n1\t2\n", 9)
        self.at("strip 3\n1,2\n", 9)
        self.at("strip 3\n1\r\n", 9)

    def test_a_needless_0_at_a_number_of_rows(self):
        self.at("strip 3\n01\n", 8)
        self.at("strip 3\n00\n", 8)
        self.at("strip 3\n1 1\n02 2\n", 12)

    def test_a_number_of_rows_out_of_its_range(self):
        for rows in ("0", "257", "300", "999", "1000", "2560"):
            self.at("strip 3\n%s\n" % rows, 8)
            self.at("strip 3\n%s 0 1\n" % rows, 8)
            self.at("strip 3\n%s" % rows, 8)
            self.at("strip 3\n%sx" % rows, 8)

    def test_a_number_of_rows_too_high_for_the_rows_before(self):
        self.at("strip 3\n200 1\n57 2\n", 14)
        self.at("strip 3\n200 1\n56 2", 18)
        self.at("strip 3\n200 1\n50\n7 1\n", 17)
        self.at("strip 3\n255\n2 1\n", 12)
        self.at("strip 3\n255\n0 1\n", 12)

    def test_where_no_row_is_left(self):
        for byte in "0", "1", "9", " ", "\n", "x":
            self.at("strip 3\n256\n" + byte, 12)
            self.at("strip 3\n256\n" + byte + " 2\n", 12)
            self.at("strip 3\n255\n1 0\n" + byte, 16)
        self.at("strip 1\n" + "1 0\n1\n" * 128 + "1 0\n", 8 + 6 * 128)

    def test_a_track_that_is_missing(self):
        self.at("strip 3\n1 \n", 10)
        self.at("strip 3\n1  1\n", 10)
        self.at("strip 3\n1 1 \n", 12)
        self.at("strip 3\n1 x\n", 10)
        self.at("strip 3\n1 -1\n", 10)

    def test_another_byte_behind_a_track(self):
        self.at("strip 3\n1 1,2\n", 11)
        self.at("strip 3\n1 1\r\n", 11)
        self.at("strip 3\n1 1strip", 11)

    def test_a_needless_0_at_a_track(self):
        self.at("strip 3\n1 00\n", 10)
        self.at("strip 3\n1 02\n", 10)
        self.at("strip 3\n1 1 02\n", 12)

    def test_a_track_not_above_the_one_before(self):
        self.at("strip 88\n1 5 5\n", 13)
        self.at("strip 88\n1 5 4\n", 13)
        self.at("strip 88\n1 5 0\n", 13)
        self.at("strip 88\n1 0 0\n", 13)
        self.at("strip 88\n1 9 10 9\n", 16)
        # All digits are the number: it isn't asked what might have followed.
        self.at("strip 88\n1 5 1", 13)

    def test_a_track_not_below_the_width(self):
        self.at("strip 1\n1 1\n", 10)
        self.at("strip 88\n1 88\n", 11)
        self.at("strip 88\n1 0 88\n", 13)
        self.at("strip 88\n1 89", 11)
        self.at("strip 128\n1 128\n", 12)
        self.at("strip 128\n1 126 1270\n", 16)

    def test_tracks_are_held_against_their_own_line(self):
        self.assertEqual(ask(read("strip 9\n1 8\n1 0\n")), [number(0)])

    def test_where_no_track_is_left(self):
        for byte in "", "0", "1", "9", " ", "\n", "x":
            self.at("strip 1\n1 0 " + byte, 12)
            self.at("strip 88\n1 3 87 " + byte, 16)
            self.at("strip 128\n1 127 " + byte, 16)

    def test_a_run_with_the_holes_of_the_one_before(self):
        self.at("strip 3\n1\n1\n", 11)
        self.at("strip 3\n1 0 2\n5 0 2\n", 19)
        self.at("strip 3\n1 0\n1 1\n2 1\n1 0\n", 19)
        self.at("strip 3\n1 0\n1\n1\n2\n", 15)
        self.at("strip 3\n1 0\n1 0", 15)
        self.at("strip 3\n1 0\n1 0x", 15)
        self.assertEqual(ask(read("strip 3\n1 0\n1 0 1\n")), [number(0)])

    def test_bytes_from_128_to_255(self):
        for byte in (128, 160, 178, 185, 194, 226, 255):
            for place in range(len(GOOD)):
                bytes_of = [ord(sign) for sign in GOOD]
                bytes_of[place] = byte
                self.at(bytes_of, place)
            self.at([ord(sign) for sign in GOOD] + [byte], len(GOOD))

    def test_very_long_numbers(self):
        for long in ("1" * 25000, "9" * 5000, "0" * 25000, "0" * 5000 + "1", "1" + "0" * 4400):
            self.at("strip " + long, 6)
            self.at("strip " + long + "\n", 6)
            self.at("strip 3\n" + long + "\n", 8)
            self.at("strip 3\n1 " + long + "\n", 10)
            self.at("strip 3\n1 2 " + long, 12)

    def test_the_first_of_two_faults(self):
        self.at("Strip 0\n", 0)
        self.at("strip 0\n0\n", 6)
        self.at("strip 3\n0 3\n", 8)
        self.at("strip 3\n1 3 3\n", 10)
        self.at("strip 3\n1\n1\n0\n", 11)


if __name__ == "__main__":
    unittest.main()
