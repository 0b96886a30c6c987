"""What only reading lets stand: none of these pages is written so."""

import unittest

from faxpages.pages import fax_read
from pagehelp import (
    BOTH_FROM_1792, END_OF_KIND, EOL, LONG, MOST_ROWS, SHORT, alone_bits, answer_of_rows, by_above_bits, bytes_of,
    run_bits)

WHITE_0 = "00110101"
BLACK_0 = "0000110111"


def runs_of(row):
    """The runs of a row in turns, white first; as many of white as of black."""
    runs = [0]
    colour = "."
    for here in row:
        if here != colour:
            runs.append(0)
            colour = here
        runs[-1] += 1
    return runs + [0] * (len(runs) % 2)


def across_bits(row):
    """A row by any one above: across upon across."""
    bits = ""
    for number, run in enumerate(runs_of(row)):
        bits += ("001" if number % 2 == 0 else "") + run_bits(number % 2, run)
    return bits


class Lets(unittest.TestCase):
    def check(self, kind, rows, bits):
        """These bits and the page's end are read as these rows."""
        got = fax_read(kind, len(rows[0]), MOST_ROWS, bytes_of(bits + END_OF_KIND[kind]))
        if got != answer_of_rows(rows):
            self.fail("kind %d, %r: %r" % (kind, bits[:200], got[:20]))

    def check_alone(self, row, codes):
        """A row alone may be coded so, whichever row it is."""
        self.check(0, [row], EOL + codes)
        self.check(0, [row, row], (EOL + codes) * 2)
        self.check(1, [row], EOL + "1" + codes)
        self.check(1, [row, row], EOL + "1" + codes + EOL + "1" + codes)

    def check_by_above(self, above, row, codes):
        """A row by the one above may be coded so, and it counts for the row below as it is."""
        self.check(1, [above, row], EOL + "1" + alone_bits(above) + EOL + "0" + codes)
        self.check(2, [above, row], across_bits(above) + codes)
        self.check(2, [above, row, row], across_bits(above) + codes + by_above_bits(row, row))


class ZerosAheadOfAnEndOfLine(Lets):
    def test_before_each_end_of_line_that_begins_a_row(self):
        row = "..####.."
        codes = "0111 011 0111"
        for zeros in (1, 2, 3, 7, 8, 9, 16, 100, 5000):
            more = "0" * zeros
            self.check(0, [row], more + EOL + codes)
            self.check(0, [row, row], EOL + codes + more + EOL + codes)
            self.check(1, [row], more + EOL + "1" + codes)
            self.check(1, [row, row], EOL + "1" + codes + more + EOL + "1" + codes)
            self.check(1, [row, row], more + EOL + "1" + codes + more + EOL + "0 111")

    def test_before_the_first_end_of_line_of_the_page_s_end(self):
        row = "..####.."
        codes = "0111 011 0111"
        for zeros in (1, 2, 7, 8, 30, 5000):
            more = "0" * zeros
            self.check(0, [row], EOL + codes + more)
            self.check(1, [row], EOL + "1" + codes + more)
            self.check(1, [row, row], EOL + "1" + codes + EOL + "0 111" + more)
            for kind in (0, 1):
                data = bytes_of(more + END_OF_KIND[kind])
                self.assertEqual(fax_read(kind, 8, 0, data), [0])

    def test_a_row_that_ends_on_zeros(self):
        # The codes' own zeros stand right before the end of line's: where one ends the other begins.
        for length, code in ((3, "1000"), (10, "00111")):
            self.check(0, ["." * length] * 2, (EOL + code) * 2)
        self.check(0, ["#" * 9] * 2, (EOL + WHITE_0 + "000100") * 2)
        self.check(1, ["#" * 9] * 2, EOL + "1" + WHITE_0 + "000100" + "0" + EOL + "1" + WHITE_0 + "000100")


class RowsOfKind1(Lets):
    ROW = "..####.."
    OTHER = "...###.."
    ALONE = {ROW: "0111 011 0111", OTHER: "1000 10 0111"}
    BY_ABOVE = {(ROW, ROW): "111", (ROW, OTHER): "011 11", (OTHER, ROW): "010 11", (OTHER, OTHER): "111"}

    def test_alone_and_by_the_one_above_in_any_order(self):
        for order in range(64):
            rows = [self.ROW]
            bits = EOL + "1" + self.ALONE[self.ROW]
            for number in range(6):
                row = self.OTHER if number in (1, 4, 5) else self.ROW
                if order >> number & 1:
                    bits += EOL + "1" + self.ALONE[row]
                else:
                    bits += EOL + "0" + self.BY_ABOVE[rows[-1], row]
                rows.append(row)
            self.check(1, rows, bits)

    def test_all_but_the_first_by_the_one_above(self):
        self.check(1, [self.ROW] * 1000, EOL + "1" + "0111 011 0111" + (EOL + "0 111") * 999)

    def test_the_one_above_with_runs_of_0(self):
        # Only points that differ are a change: runs of 0 in the row above leave none.
        above = "000111" + BLACK_0 + "0111 11 1000"
        self.check(1, ["...##...", "...##..."], EOL + "1" + above + EOL + "0 111")
        above = WHITE_0 + BLACK_0 + "1000 11" + WHITE_0 + BLACK_0 + "1000"
        self.check(1, ["...##...", "...##..."], EOL + "1" + above + EOL + "0 111")
        above = WHITE_0 + "11" + WHITE_0 + "10 1000"
        self.check(1, ["#####...", "#####..."], EOL + "1" + above + EOL + "0 111")
        self.check(1, ["#####...", "......##"], EOL + "1" + above + EOL + "0 0001 000010 1")
        # The same in a row by the one above.
        above = "001" + WHITE_0 + "11 001" + WHITE_0 + "10 1"
        self.check(2, ["#####...", "#####..."], above + "111")
        self.check(2, ["#####...", "......##"], above + "0001 000010 1")
        above = "001 0111" + BLACK_0 + "001 000111 0011"
        self.check(2, ["...#####", "...#####"], above + "11")


class RunsAsAnySum(Lets):
    def test_64_and_64_and_0(self):
        self.check_alone("." * 128, "11011 11011" + WHITE_0)
        self.check_alone("#" * 128, WHITE_0 + "0000001111 0000001111" + BLACK_0)
        self.check_by_above("." * 130, "." * 128 + "##", "001 11011 11011" + WHITE_0 + "11")
        self.check_by_above("." * 130, "#" * 128 + "..", "001" + WHITE_0 + "0000001111 0000001111" + BLACK_0 + "1")

    def test_many_64s(self):
        self.check_alone("." * 16384, "11011" * 256 + WHITE_0)
        self.check_alone("#" * 16384, WHITE_0 + "0000001111" * 256 + BLACK_0)

    def test_2560_and_0(self):
        self.check_alone("." * 2560, "000000011111" + WHITE_0)
        self.check_alone("#" * 2560, WHITE_0 + "000000011111" + BLACK_0)
        self.check_alone("." * 5120 + "#", "000000011111 000000011111" + WHITE_0 + "010")

    def test_the_codes_of_both_colours(self):
        for number, code in enumerate(BOTH_FROM_1792):
            width = 1792 + 64 * number
            self.check_alone("." * width, code + WHITE_0)
            self.check_alone("." * (width + 5), code + "1100")
            self.check_alone("#" * width, WHITE_0 + code + BLACK_0)
            self.check_alone("#" * (width + 5), WHITE_0 + code + "0011")
            self.check_by_above("." * (width + 9), "." * width + "#" * 9, "001" + code + WHITE_0 + "000100")
            self.check_by_above("." * (width + 9), "#" * width + "." * 9, "001" + WHITE_0 + code + BLACK_0 + "1")

    def test_1792_as_other_sums(self):
        # 1728 and 64, 64 and 1728, 896 twice.
        for sum_of in ((27, 1), (1, 27), (14, 14), (1, 1, 26), (10, 10, 8)):
            for colour in (0, 1):
                codes = "".join(LONG[colour][number - 1] for number in sum_of) + SHORT[colour][0]
                self.check_alone(".#"[colour] * 1792, colour * WHITE_0 + codes)

    def test_the_smaller_first(self):
        self.check_alone("." * (64 + 2560 + 128 + 63), "11011 000000011111 10010 00110100")
        self.check_alone("#" * (64 + 2560 + 1), WHITE_0 + "0000001111 000000011111 010")

    def test_every_code_as_a_run(self):
        for colour in (0, 1):
            for length in range(64):
                for sixty_fours in range(41):
                    if length % 9 == sixty_fours % 9 or sixty_fours == 0:
                        more = LONG[colour][sixty_fours - 1] if sixty_fours else ""
                        codes = colour * WHITE_0 + more + SHORT[colour][length] + SHORT[1 - colour][1]
                        row = ".#"[colour] * (64 * sixty_fours + length) + ".#"[1 - colour]
                        self.check(0, [row], EOL + codes)


class RunsOf0(Lets):
    def test_in_mid_row(self):
        self.check_alone("....####", "0111" + BLACK_0 + "0111" + "011")
        self.check_alone("####....", WHITE_0 + "11" + WHITE_0 + "11" + "1011")
        self.check_alone("..####..", "0111 11" + WHITE_0 + "11" + "000111" + BLACK_0 + "000111")

    def test_at_the_beginning(self):
        self.check_alone("........", WHITE_0 + BLACK_0 + "10011")
        self.check_alone("########", WHITE_0 + BLACK_0 + WHITE_0 + "000101")

    def test_as_many_as_may_be(self):
        # width + 3 runs, the last one to the row's end.
        for width in range(1, 20):
            runs = [0] * (width + 2) + [width]
            codes = "".join(run_bits(number % 2, run) for number, run in enumerate(runs))
            self.check_alone(".#"[width % 2] * width, codes)
            # One point each, three runs of 0 ahead.
            runs = [0] * 3 + [1] * width
            codes = "".join(run_bits(number % 2, run) for number, run in enumerate(runs))
            self.check_alone(("#." * width)[:width], codes)

    def test_one_of_an_across(self):
        self.check_by_above("........", "###.....", "001" + WHITE_0 + "10" + "1")
        self.check_by_above("........", "...#####", "001 1000" + BLACK_0 + "001" + WHITE_0 + "0011")
        self.check_by_above("........", "........", "001 1000" + BLACK_0 + "1")
        self.check_by_above("........", "........", "001 10011" + BLACK_0)
        self.check_by_above("........", "########", "001" + WHITE_0 + "000101")
        self.check_by_above("..####..", "..####..", "1 001 11" + WHITE_0 + "001 11 0111")
        self.check_by_above("..####..", "..######", "1 001 0010" + WHITE_0)
        self.check_by_above("..####..", "..##....", "1 001 11 0111 001" + BLACK_0 + "0111")


class RowsByTheOneAboveInOtherWays(Lets):
    def test_across_where_straight_down_would_do(self):
        self.check_by_above("..####..", "..####..", "001 0111 011 1")
        self.check_by_above("..####..", "...###..", "001 1000 10 1")
        self.check_by_above("..####..", "..####..", "1 001 011 0111")
        self.check_by_above("........", "........", "001 0111" + BLACK_0 + "001 1110" + BLACK_0)
        self.check_by_above("########", "########", "001" + WHITE_0 + "000101")

    def test_across_where_passing_over_would_do(self):
        self.check_by_above("..##....", "......##", "001 1110 11")
        self.check_by_above("..##....", "........", "001 1000" + BLACK_0 + "1")

    def test_passed_over_in_steps(self):
        self.check_by_above("..##....", "........", "0001 1")
        self.check_by_above("..##....", ".....###", "0001 0000010 1")
        self.check_by_above("#.#.#.#.", "........", "0001 0001 0001 0001 1")
        # At 1 by passing over, at 3 by 1 to the right; the black goes on over the change to white at 5.
        self.check_by_above("#.#.#.#.", "...####.", "0001 011 0001 1 1")

    def test_passed_over_while_black(self):
        # The changes to white at 1 and 4 are passed over, the one at 6 is not.
        self.check_by_above("#.##.#..", "#######.", "1 0001 0001 011 1")
        self.check_by_above("#.##.#..", "########", "1 0001 0001 000011")

    def test_passed_over_right_behind_an_across(self):
        # a is at 1, within the black above: its next change to black is at 5.
        self.check_by_above("###..#..", "#.......", "001" + WHITE_0 + "010 0001 1")
        self.check_by_above("###..#..", "#......#", "001" + WHITE_0 + "010 0001 010 1")

    def test_straight_down_where_passing_over_was_due(self):
        # b2 is before a1, and yet a1 is within b1's reach.
        self.check_by_above(".#......", "....####", "0000011 1")
        self.check_by_above("..#.....", ".....###", "0000011 1")
        self.check_by_above("......#.", "........", "000011")

    def test_straight_to_the_first_place(self):
        # a stands before the row: place 0 is behind it.
        self.check_by_above("#.......", "#.......", "1 1 1")
        self.check_by_above(".#......", "##......", "010 1 1")
        self.check_by_above("..#.....", "###.....", "000010 1 1")
        self.check_by_above("...#....", "#.......", "0000010 0000010 0001 1")

    def test_straight_to_the_place_right_behind_a(self):
        self.check_by_above(".####...", ".#......", "1 0000010 1")
        self.check_by_above("..###...", "..#.....", "1 000010 1")

    def test_straight_to_the_width(self):
        self.check_by_above("..####..", "..######", "1 000011")
        self.check_by_above(".......#", "........", "011")
        self.check_by_above(".....#..", "........", "0000011")
        self.check_by_above("........", "........", "1")


class AnyBytes(Lets):
    def test_fill_of_each_length(self):
        # In kind 2 a white row is one bit, so that each fill from none to seven zeros comes up.
        for rows in range(1, 18):
            self.check(2, ["...."] * rows, "1" * rows)


if __name__ == "__main__":
    unittest.main()
