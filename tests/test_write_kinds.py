"""Ordinary pages of each kind, worked out by hand from the document's codes."""

import unittest

from faxpages.pages import fax_write
from pagehelp import EOL, PLENTY, answer_of, picture_of

SHIFTED = ["..####..", "...###..", "........"]

FIRST_ALONE = "0111 011 0111"
SECOND_ALONE = "1000 10 0111"
THIRD_ALONE = "10011"

FIRST_BY_WHITE = "001 0111 011  1"
SECOND_BY_FIRST = "011 1 1"
THIRD_BY_SECOND = "0001 1"


def write(kind, k, rows):
    return fax_write(kind, k, len(rows[0]), len(rows), PLENTY, picture_of(rows))


class Kind0(unittest.TestCase):
    def test_one_row_to_the_byte(self):
        self.assertEqual(
            fax_write(0, 1, 8, 1, 100, [0x3C]),
            [12, 0x00, 0x17, 0x6E, 0x00, 0x20, 0x02, 0x00, 0x20, 0x02, 0x00, 0x20, 0x02],
        )

    def test_each_row_behind_an_end_of_line(self):
        rows = ["..###.....", "##########", ".........#"]
        bits = EOL + "0111 10 1100" + EOL + "00110101 0000100" + EOL + "10100 010" + EOL * 6
        self.assertEqual(write(0, 1, rows), answer_of(bits))

    def test_k_says_nothing(self):
        bits = EOL + FIRST_ALONE + EOL + SECOND_ALONE + EOL + THIRD_ALONE + EOL * 6
        for k in (1, 2, 3, 4294967295):
            self.assertEqual(write(0, k, SHIFTED), answer_of(bits))


class Kind1(unittest.TestCase):
    def test_one_row_to_the_byte(self):
        # 12 bits and 1, 0111 011 0111, then six times 12 bits and 1: 102 bits.
        self.assertEqual(
            fax_write(1, 1, 8, 1, 100, [0x3C]),
            [13, 0x00, 0x1B, 0xB7, 0x00, 0x18, 0x00, 0xC0, 0x06, 0x00, 0x30, 0x01, 0x80, 0x0C],
        )

    def test_k_1(self):
        bits = EOL + "1" + FIRST_ALONE + EOL + "1" + SECOND_ALONE + EOL + "1" + THIRD_ALONE
        self.assertEqual(write(1, 1, SHIFTED), answer_of(bits + (EOL + "1") * 6))

    def test_k_2(self):
        bits = EOL + "1" + FIRST_ALONE + EOL + "0" + SECOND_BY_FIRST + EOL + "1" + THIRD_ALONE
        self.assertEqual(write(1, 2, SHIFTED), answer_of(bits + (EOL + "1") * 6))

    def test_k_as_many_as_rows_and_above(self):
        bits = EOL + "1" + FIRST_ALONE + EOL + "0" + SECOND_BY_FIRST + EOL + "0" + THIRD_BY_SECOND
        for k in (3, 4, 16384, 4294967295):
            self.assertEqual(write(1, k, SHIFTED), answer_of(bits + (EOL + "1") * 6))

    def test_every_third_row_alone_again(self):
        tagged = "".join(EOL + tag + bits for tag, bits in [
            ("1", FIRST_ALONE), ("0", "111"), ("0", SECOND_BY_FIRST),
            ("1", THIRD_ALONE), ("0", "1"), ("0", FIRST_BY_WHITE),
            ("1", SECOND_ALONE),
        ])
        first, second, third = SHIFTED
        rows = [first, first, second, third, third, first, second]
        self.assertEqual(write(1, 3, rows), answer_of(tagged + (EOL + "1") * 6))

    def test_the_row_above_is_the_one_just_before(self):
        rows = ["##......", "......##", "####....", "##......"]
        bits = EOL + "1" + "00110101 11 1110" + EOL + "0" + "0001 000010 1"
        bits += EOL + "1" + "00110101 011 1011" + EOL + "0" + "1 000010 1"
        self.assertEqual(write(1, 2, rows), answer_of(bits + (EOL + "1") * 6))


class Kind2(unittest.TestCase):
    def test_one_row_to_the_byte(self):
        # 001 0111 011 1, then twice 12 bits: 35 bits.
        self.assertEqual(fax_write(2, 1, 8, 1, 100, [0x3C]), [5, 0x2E, 0xE0, 0x02, 0x00, 0x20])

    def test_each_row_by_the_one_above(self):
        bits = FIRST_BY_WHITE + SECOND_BY_FIRST + THIRD_BY_SECOND + EOL * 2
        for k in (1, 2, 3, 4294967295):
            self.assertEqual(write(2, k, SHIFTED), answer_of(bits))

    def test_white_page(self):
        self.assertEqual(write(2, 1, ["........"] * 5), answer_of("11111" + EOL * 2))


if __name__ == "__main__":
    unittest.main()
