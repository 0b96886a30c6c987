"""Every code of both colours, and how long runs are put together."""

import unittest

from faxpages.pages import fax_write
from pagehelp import BLACK_BY_64, BLACK_TO_63, BOTH_FROM_1792, EOL, PLENTY, WHITE_BY_64, WHITE_TO_63
from pagehelp import answer_of, picture_of

WHITE_1 = "000111"
WHITE_0 = "00110101"
BLACK_1 = "010"
BLACK_0 = "0000110111"

BLACK_RUNS = {
    63: "000001100111",
    64: "0000001111 0000110111",
    1728: "0000001100101 0000110111",
    1791: "0000001100101 000001100111",
    1792: "00000001000 0000110111",
    2559: "000000011110 000001100111",
    2560: "000000011111 0000110111",
    2561: "000000011111 010",
    2624: "000000011111 0000001111 0000110111",
    5119: "000000011111 000000011110 000001100111",
    5120: "000000011111 000000011111 0000110111",
    5185: "000000011111 000000011111 0000001111 010",
    7682: "000000011111 000000011111 000000011111 11",
}
WHITE_RUNS = {
    63: "00110100",
    64: "11011 00110101",
    1728: "010011011 00110101",
    1791: "010011011 00110100",
    1792: "00000001000 00110101",
    2559: "000000011110 00110100",
    2560: "000000011111 00110101",
    2561: "000000011111 000111",
    2624: "000000011111 11011 00110101",
    5119: "000000011111 000000011110 00110100",
    5120: "000000011111 000000011111 00110101",
    5185: "000000011111 000000011111 11011 000111",
    7682: "000000011111 000000011111 000000011111 0111",
}


class Runs(unittest.TestCase):
    def check_alone(self, row, bits):
        got = fax_write(0, 1, len(row), 1, PLENTY, picture_of([row]))
        self.assertEqual(got, answer_of(EOL + bits + EOL * 6))

    def check_by_white(self, row, bits):
        got = fax_write(2, 1, len(row), 1, PLENTY, picture_of([row]))
        self.assertEqual(got, answer_of(bits + EOL * 2))

    def check_white(self, length, bits):
        with self.subTest(white=length):
            self.check_alone("." * length + "#", bits + BLACK_1)

    def check_black(self, length, bits):
        with self.subTest(black=length):
            self.check_alone("." + "#" * length + ".", WHITE_1 + bits + WHITE_1)

    def test_white_from_0_to_63(self):
        for length, code in enumerate(WHITE_TO_63):
            self.check_white(length, code)

    def test_black_from_1_to_63(self):
        for length, code in enumerate(BLACK_TO_63):
            if length > 0:
                self.check_black(length, code)

    def test_black_0(self):
        rows = ["..########", ".........."]
        got = fax_write(2, 1, 10, 2, PLENTY, picture_of(rows))
        self.assertEqual(got, answer_of("001 0111 000101  001 00111 0000110111" + EOL * 2))

    def test_white_by_64(self):
        for number, code in enumerate(WHITE_BY_64 + BOTH_FROM_1792, start=1):
            self.check_white(number * 64, code + WHITE_0)
            if number < 40:
                self.check_white(number * 64 + 63, code + WHITE_TO_63[63])

    def test_black_by_64(self):
        for number, code in enumerate(BLACK_BY_64 + BOTH_FROM_1792, start=1):
            self.check_black(number * 64, code + BLACK_0)
            if number < 40:
                self.check_black(number * 64 + 63, code + BLACK_TO_63[63])

    def test_white_runs_written_out(self):
        for length, bits in WHITE_RUNS.items():
            self.check_white(length, bits)

    def test_black_runs_written_out(self):
        for length, bits in BLACK_RUNS.items():
            self.check_black(length, bits)

    def test_runs_written_out_across(self):
        for length, white in WHITE_RUNS.items():
            with self.subTest(length=length):
                row = "." * length + "#" * length + "."
                self.check_by_white(row, "001" + white + BLACK_RUNS[length] + "1")

    def test_whole_row_of_the_most_width(self):
        six = "000000011111" * 6
        self.check_alone("." * 16384, six + "011010101" + WHITE_0)
        self.check_alone("#" * 16384, WHITE_0 + six + "0000001110100" + BLACK_0)

    def test_whole_black_row_by_white(self):
        six = "000000011111" * 6
        self.check_by_white("#" * 16384, "001" + WHITE_0 + six + "0000001110100" + BLACK_0)


if __name__ == "__main__":
    unittest.main()
