"""Faults within rows, -11, -12 and -14, told at their bit whatever stands ahead of the row and behind it."""

import unittest

from faxpages.pages import fax_read
from pagehelp import (
    BOTH_FROM_1792, END_OF_KIND, EOL, LONG, MOST_ROWS, SHORT, STRAIGHT, WAYS, ahead_of_alone, ahead_of_by_above,
    bytes_of, plain, run_bits, to_byte_s_end)

WHITE_0 = "00110101"
BLACK_0 = "0000110111"
ZEROS = (WHITE_0, BLACK_0)

# The one beginning that no code of a run has, and those that no way has.
NO_RUN = "00000000"
NO_WAYS = ("0000000", "0000001")


class RowFaults(unittest.TestCase):
    def check(self, kind, width, bits, number, place):
        got = fax_read(kind, width, MOST_ROWS, bytes_of(bits))
        if got != [number, place]:
            self.fail("kind %d, width %d, %s: %r, not %r" % (kind, width, bits[:300], got[:9], [number, place]))

    def check_whatever_is_behind(self, kind, width, ahead, wrong, number):
        """The fault is told where the text of what's wrong begins."""
        for behind in ("", "1" * 20, "01" * 10, END_OF_KIND[kind]):
            self.check(kind, width, ahead + plain(wrong) + behind, number, len(ahead))

    def wrong_alone(self, number, width, good, wrong):
        for kind in (0, 1):
            for ahead in ahead_of_alone(kind, width):
                self.check_whatever_is_behind(kind, width, plain(ahead + good), wrong, number)

    def wrong_by_above(self, number, above, good, wrong):
        for kind, ahead in ahead_of_by_above(above):
            self.check_whatever_is_behind(kind, len(above), plain(ahead + good), wrong, number)

    def ends_alone(self, width, good, begun):
        """The data end within a row alone, and that is told where the last, begun text begins."""
        for kind in (0, 1):
            for ahead in ahead_of_alone(kind, width):
                bits = to_byte_s_end(kind, ahead + good + begun)
                self.check(kind, width, bits, -14, len(bits) - len(plain(begun)))

    def ends_by_above(self, above, good, begun):
        for kind, ahead in ahead_of_by_above(above):
            bits = to_byte_s_end(kind, ahead + good + begun)
            self.check(kind, len(above), bits, -14, len(bits) - len(plain(begun)))


class NoCode(RowFaults):
    def test_where_a_row_alone_begins(self):
        for width in (1, 8, 9, 64, 16384):
            self.wrong_alone(-11, width, "", NO_RUN)

    def test_within_a_row_alone(self):
        self.wrong_alone(-11, 8, "0111", NO_RUN)
        self.wrong_alone(-11, 8, "0111 011", NO_RUN)
        self.wrong_alone(-11, 8, "0111 011 000111", NO_RUN)
        self.wrong_alone(-11, 8, WHITE_0, NO_RUN)
        self.wrong_alone(-11, 8, WHITE_0 + BLACK_0, NO_RUN)

    def test_behind_a_code_of_64_and_more(self):
        self.wrong_alone(-11, 16384, "11011", NO_RUN)
        self.wrong_alone(-11, 16384, "11011 000000011111 10010", NO_RUN)
        self.wrong_alone(-11, 16384, "0111 0000001111", NO_RUN)
        # Also where the row is full but for the code below 64, which stands even when it's 0.
        self.wrong_alone(-11, 64, "11011", NO_RUN)
        self.wrong_alone(-11, 66, "0111 0000001111", NO_RUN)

    def test_an_end_of_line_before_the_row_is_full(self):
        self.wrong_alone(-11, 8, "1110", EOL)
        self.wrong_alone(-11, 8, "0111 011", EOL)
        self.wrong_alone(-11, 64, "11011", EOL)
        self.wrong_by_above(-11, "..##....", "1", EOL)
        self.wrong_by_above(-11, "..##....", "11", EOL)
        self.wrong_by_above(-11, "..##....", "001 0111", EOL)

    def test_zeros_before_the_row_is_full(self):
        self.wrong_alone(-11, 8, "1110", "0" * 30)
        self.wrong_by_above(-11, "..##....", "1", "0" * 30)

    def test_where_a_row_by_the_one_above_begins(self):
        for way in NO_WAYS:
            self.wrong_by_above(-11, "........", "", way)
            self.wrong_by_above(-11, "#.......", "", way)
            self.wrong_by_above(-11, "#", "", way)

    def test_within_a_row_by_the_one_above(self):
        for way in NO_WAYS:
            self.wrong_by_above(-11, "..##....", "1", way)
            self.wrong_by_above(-11, "..##....", "0001", way)
            self.wrong_by_above(-11, "..##....", "11", way)
            self.wrong_by_above(-11, "..##....", "001 000111 010", way)

    def test_in_the_first_run_of_an_across(self):
        self.wrong_by_above(-11, "..##....", "001", NO_RUN)
        self.wrong_by_above(-11, "..##....", "1 001", NO_RUN)
        self.wrong_by_above(-11, "." * 200, "001 11011", NO_RUN)

    def test_in_the_second_run_of_an_across(self):
        self.wrong_by_above(-11, "..##....", "001 0111", NO_RUN)
        self.wrong_by_above(-11, "..##....", "1 001 11", NO_RUN)
        self.wrong_by_above(-11, "..##....", "001" + WHITE_0, NO_RUN)
        self.wrong_by_above(-11, "..##....", "001 10011", NO_RUN)
        self.wrong_by_above(-11, "." * 200, "001 0111 0000001111", NO_RUN)

    def test_ahead_of_a_way_that_isn_t_let(self):
        # That both runs are 0 is only seen when both are there.
        self.wrong_by_above(-11, "..##....", "001" + WHITE_0, NO_RUN)

    def test_in_the_data_s_last_bits(self):
        # As many zeros as a code may begin with are the data's end, one more is no code.
        for kind in (0, 1):
            bits = to_byte_s_end(kind, EOL + "1" * kind + "0111" + "0" * 8)
            self.check(kind, 8, bits, -11, len(bits) - 8)
        for kind, ahead in ahead_of_by_above("..##...."):
            bits = to_byte_s_end(kind, ahead + "1" + "0" * 6)
            self.check(kind, 8, bits, -11, len(bits) - 6)


class BeyondTheRowsEnd(RowFaults):
    def test_at_its_only_code(self):
        self.wrong_alone(-12, 8, "", "10100")
        self.wrong_alone(-12, 1, "", "0111")
        self.wrong_alone(-12, 62, "", SHORT[0][63])
        self.wrong_alone(-12, 8, "0111", "00011")
        self.wrong_alone(-12, 8, "0111 11", "1100")
        self.wrong_alone(-12, 8, WHITE_0, "000100")
        self.wrong_alone(-12, 62, WHITE_0, SHORT[1][63])

    def test_at_its_first_code_of_several(self):
        # Whatever the codes behind it are: it's beyond by itself.
        for number in range(40):
            width = 64 * number + 63
            self.wrong_alone(-12, width, "", LONG[0][number])
            self.wrong_alone(-12, width, WHITE_0, LONG[1][number])
        self.wrong_alone(-12, 65, "0111", "0000001111" + NO_RUN)
        self.wrong_alone(-12, 63, "", "11011" + NO_RUN)

    def test_at_its_last_code(self):
        self.wrong_alone(-12, 64, "11011", "000111")
        self.wrong_alone(-12, 70, "11011", "1111")
        self.wrong_alone(-12, 70, "0111 0000001111", "0011")
        for number, code in enumerate(BOTH_FROM_1792):
            self.wrong_alone(-12, 1793 + 64 * number, code, "0111")
            self.wrong_alone(-12, 1793 + 64 * number, WHITE_0 + code, "11")

    def test_at_a_code_in_between(self):
        self.wrong_alone(-12, 127, "11011", "11011")
        self.wrong_alone(-12, 127, "11011", "11011" + WHITE_0)
        self.wrong_alone(-12, 200, "11011 11011", "10010")
        self.wrong_alone(-12, 200, "11011 11011 11011", "000000011111")
        self.wrong_alone(-12, 16383, "11011" * 255, "11011")
        self.wrong_alone(-12, 130, "1000 0000001111", "0000001111")

    def test_at_the_most_width(self):
        self.wrong_alone(-12, 16384, "000000011111" * 6, "000000011111")
        # Six times 2560 and 1024 fill the row.
        self.wrong_alone(-12, 16384, "000000011111" * 6 + LONG[0][15], "000111")
        self.wrong_alone(-12, 16384, "000000011111" * 6 + LONG[0][15], LONG[0][0])
        self.wrong_alone(-12, 16384, "000111" + "000000011111" * 6, LONG[1][15])

    def test_in_the_first_run_of_an_across(self):
        self.wrong_by_above(-12, "..##....", "001", "10100")
        self.wrong_by_above(-12, "..##....", "1 001", "00011")
        self.wrong_by_above(-12, "..##....", "0001 001", "1100")
        self.wrong_by_above(-12, "." * 100, "001 11011", "11011")
        self.wrong_by_above(-12, "." * 63, "001", "11011")

    def test_in_the_second_run_of_an_across(self):
        self.wrong_by_above(-12, "..##....", "001 0111", "00011")
        self.wrong_by_above(-12, "..##....", "001 10011", "010")
        self.wrong_by_above(-12, "..##....", "1 001 11", "1100")
        self.wrong_by_above(-12, "..##....", "0001 001 1000", "11")
        self.wrong_by_above(-12, "." * 100, "001 0111 0000001111", SHORT[1][35])
        self.wrong_by_above(-12, "." * 66, "001 1000", "0000001111")


class WaysNotLet(RowFaults):
    def test_passed_over_with_b2_at_the_width(self):
        for above in ("........", "########", ".......#", "..######", ".", "#", "." * 16384):
            self.wrong_by_above(-12, above, "", "0001")
        # Behind the last change to white, or while black with no change to black behind one to white.
        self.wrong_by_above(-12, "..##....", "0001", "0001")
        self.wrong_by_above(-12, "..##....", "1", "0001")
        self.wrong_by_above(-12, "..##....", "11", "0001")
        self.wrong_by_above(-12, "..##..##", "0001", "0001")
        self.wrong_by_above(-12, "..##..##", "1 0001", "0001")
        self.wrong_by_above(-12, "..##....", "001 0111 010", "0001")

    def test_across_with_both_runs_0(self):
        for above in ("........", "#.......", "..##....", "#"):
            self.wrong_by_above(-12, above, "", "001" + WHITE_0 + BLACK_0)
        self.wrong_by_above(-12, "..##....", "0001", "001" + WHITE_0 + BLACK_0)
        self.wrong_by_above(-12, "..##....", "1", "001" + BLACK_0 + WHITE_0)
        self.wrong_by_above(-12, "..##....", "001 0111 11", "001" + WHITE_0 + BLACK_0)

    def test_straight_to_before_the_row(self):
        self.wrong_by_above(-12, "#.......", "", "010")
        self.wrong_by_above(-12, "#.......", "", "000010")
        self.wrong_by_above(-12, "#.......", "", "0000010")
        self.wrong_by_above(-12, ".#......", "", "000010")
        self.wrong_by_above(-12, ".#......", "", "0000010")
        self.wrong_by_above(-12, "..#.....", "", "0000010")
        self.wrong_by_above(-12, ".", "", "000010")
        self.wrong_by_above(-12, "..", "", "0000010")

    def test_straight_to_a_place_not_behind_a(self):
        # To a itself, and to before it.
        self.wrong_by_above(-12, "..#.....", "1", "010")
        self.wrong_by_above(-12, "..#.....", "1", "000010")
        self.wrong_by_above(-12, "..##....", "1", "000010")
        self.wrong_by_above(-12, "..##....", "1", "0000010")
        self.wrong_by_above(-12, "..###...", "1", "0000010")
        self.wrong_by_above(-12, "#.......", "1", "010")
        self.wrong_by_above(-12, "..##.#..", "0001", "010")
        self.wrong_by_above(-12, "..##.#..", "0001", "000010")
        self.wrong_by_above(-12, "........", "001 1110 010", "010")
        self.wrong_by_above(-12, "........", "001 1011 010", "0000010")
        self.wrong_by_above(-12, "....#...", "001 000111 11", "010")

    def test_straight_beyond_the_width(self):
        for width in (1, 2, 3, 8, 9, 16384):
            for code, shift in STRAIGHT.items():
                if shift > 0:
                    self.wrong_by_above(-12, "." * width, "", code)
        self.wrong_by_above(-12, ".......#", "", "000011")
        self.wrong_by_above(-12, ".......#", "", "0000011")
        self.wrong_by_above(-12, "......#.", "", "0000011")
        self.wrong_by_above(-12, "..##....", "11", "011")
        self.wrong_by_above(-12, "..#####.", "1", "000011")
        self.wrong_by_above(-12, "..######", "1", "011")

    def test_each_straight_one_from_each_place(self):
        # a is behind a run of the row's own, b1 is where the above's only point is, or the width.
        width = 9
        for point in range(width):
            above = "." * point + "#" + "." * (width - point - 1)
            for a in range(1, width):
                to_a = "001" + SHORT[0][a - 1] + "010"
                b1 = point if point > a else width
                for code, shift in STRAIGHT.items():
                    if not a < b1 + shift <= width:
                        self.wrong_by_above(-12, above, to_a, code)


def runs_in_turns(lengths):
    return "".join(run_bits(number % 2, length) for number, length in enumerate(lengths))


class MoreRunsThanMayBe(RowFaults):
    def test_the_row_full_by_the_one_more(self):
        for width in (1, 2, 3, 8, 9, 64, 100, 1792, 2560):
            self.wrong_alone(-12, width, runs_in_turns([0] * (width + 3) + [width]), "")
            self.wrong_alone(-12, width, runs_in_turns([0] * 4 + [1] * width), "")

    def test_the_row_not_full(self):
        for width in (1, 2, 3, 8, 9, 64, 100):
            self.wrong_alone(-12, width, runs_in_turns([0] * (width + 4)), "")
            self.wrong_alone(-12, width, runs_in_turns([0] * 5 + [1] * (width - 1)), "")
        self.wrong_alone(-12, 200, runs_in_turns([0] * 203 + [130]), "")

    def test_however_many_more_there_are(self):
        codes = runs_in_turns([0] * 12)
        self.wrong_alone(-12, 8, codes, WHITE_0 + BLACK_0 + WHITE_0)
        self.wrong_alone(-12, 8, codes, NO_RUN)

    def test_the_one_more_as_a_sum_of_codes(self):
        for width in (200, 201):
            colour = (width + 3) % 2
            codes = runs_in_turns([0] * (width + 3))
            self.wrong_alone(-12, width, codes + LONG[colour][0] * 2 + SHORT[colour][3], "")
            self.wrong_alone(-12, width, codes + LONG[colour][0] * 3 + SHORT[colour][width - 192], "")

    def test_no_code_within_the_one_more(self):
        for width in (1, 2, 8, 9):
            self.wrong_alone(-11, width, runs_in_turns([0] * (width + 3)), NO_RUN)
            self.wrong_alone(-11, width, runs_in_turns([0] * 4 + [1] * (width - 1)), NO_RUN)
        for width in (200, 201):
            self.wrong_alone(-11, width, runs_in_turns([0] * (width + 3)) + LONG[(width + 3) % 2][1], NO_RUN)

    def test_the_one_more_beyond_the_row_s_end(self):
        for width in (1, 2, 8, 9):
            colour = (width + 3) % 2
            self.wrong_alone(-12, width, runs_in_turns([0] * (width + 3)), SHORT[colour][width + 1])
            self.wrong_alone(-12, width, runs_in_turns([0] * (width + 3)), LONG[colour][0])
        for width in (100, 101):
            colour = (width + 3) % 2
            self.wrong_alone(-12, width, runs_in_turns([0] * (width + 3)) + LONG[colour][0], SHORT[colour][40])
            self.wrong_alone(-12, width, runs_in_turns([0] * (width + 3)) + LONG[colour][0], LONG[colour][0])

    def test_the_data_end_within_the_one_more(self):
        for width in (1, 2, 8, 9):
            colour = (width + 3) % 2
            codes = runs_in_turns([0] * (width + 3))
            self.ends_alone(width, codes, "")
            self.ends_alone(width, codes, ZEROS[colour][:-1])
        for width in (100, 101):
            colour = (width + 3) % 2
            codes = runs_in_turns([0] * (width + 3)) + LONG[colour][0]
            self.ends_alone(width, codes, "")
            self.ends_alone(width, codes, SHORT[colour][30][:-1])

    def test_the_data_end_right_behind_the_one_more(self):
        for kind in (0, 1):
            for last in (0, 8):
                bits = to_byte_s_end(kind, EOL + "1" * kind + runs_in_turns([0] * 11 + [last]))
                self.check(kind, 8, bits, -12, len(bits))

    def test_across_upon_across_has_no_most(self):
        # Runs of 0 in rows by the one above are bound by their making progress alone.
        codes = ("001" + WHITE_0 + "010" + "001" + "000111" + BLACK_0) * 4 + "001" + NO_RUN
        self.wrong_by_above(-11, "." * 9, codes[:-8], NO_RUN)


def beginnings(codes):
    """All that the data can end with within one of these codes."""
    return sorted({code[:length] for code in codes for length in range(len(code))})


class DataEnd(RowFaults):
    def test_within_each_code_of_a_run(self):
        for colour in (0, 1):
            for begun in beginnings(SHORT[colour] + LONG[colour]):
                self.ends_alone(100, colour * "0111", begun)
                self.ends_alone(100, colour * "0111" + LONG[colour][0], begun)

    def test_in_any_run_of_a_row(self):
        for begun in ("", "0", "0000000"):
            self.ends_alone(8, "0111 11 000111", begun)
            self.ends_alone(8, "0111 11 000111 11", begun)
            self.ends_alone(1, WHITE_0, begun)
            # The row is full but for the code below 64.
            self.ends_alone(64, "11011", begun)
            self.ends_alone(64, WHITE_0 + "0000001111", begun)

    def test_within_each_way(self):
        for begun in beginnings(WAYS):
            self.ends_by_above("..##....", "", begun)
            self.ends_by_above("..##....", "1", begun)
            self.ends_by_above("..##....", "0001", begun)
            self.ends_by_above("..##....", "11", begun)
            self.ends_by_above("..##....", "001 0111 11", begun)

    def test_within_an_across(self):
        for colour, ahead in ((0, "001"), (1, "1 001")):
            above = "..##" + "." * 100
            for begun in beginnings(SHORT[colour] + LONG[colour])[::5]:
                self.ends_by_above(above, ahead, begun)
                self.ends_by_above(above, ahead + LONG[colour][0], begun)
            for begun in beginnings(SHORT[1 - colour] + LONG[1 - colour])[::5]:
                self.ends_by_above(above, ahead + SHORT[colour][5], begun)
                self.ends_by_above(above, ahead + ZEROS[colour], begun)
                self.ends_by_above(above, ahead + SHORT[colour][5] + LONG[1 - colour][0], begun)

    def test_behind_a_full_first_run_of_an_across(self):
        for begun in ("", "0", "000011011"):
            self.ends_by_above("........", "001 10011", begun)


if __name__ == "__main__":
    unittest.main()
