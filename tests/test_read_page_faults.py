"""Faults of a page's frame: -13, -14 within ends of line, -15 behind the page, -16, and which one is first."""

import unittest

from faxpages.pages import fax_read
from pagehelp import END_OF_KIND, EOL, MOST_ROWS, bytes_of, plain, to_byte_s_end

# A row of 8 points, coded alone and by itself above.
ROW = plain("0111 011 0111")
SAME = "111"
ONE = EOL + "1"
WHITE_0 = "00110101"

# How many rows each text of begins_of_lines holds.
ROWS_AHEAD = (0, 1, 2, 2)


def begins_of_lines(kind):
    """What may stand ahead of an end of line that begins a row or the page's end, as many texts."""
    if kind == 0:
        return ["", EOL + ROW, EOL + ROW + "0000" + EOL + ROW]
    return ["", ONE + ROW, ONE + ROW + EOL + "0" + SAME, ONE + ROW + "00" + ONE + ROW]


class PageFaults(unittest.TestCase):
    def check(self, kind, bits, number, place, most=MOST_ROWS):
        bits = plain(bits)
        got = fax_read(kind, 8, most, bytes_of(bits))
        if got != [number, place]:
            self.fail("kind %d, most %d, %s: %r, not %r" % (kind, most, bits[:300], got[:9], [number, place]))

    def check_end(self, kind, ahead, begun, most=MOST_ROWS):
        """The data end with a text that's only begun: -14 where that begins."""
        bits = to_byte_s_end(kind, ahead + begun)
        self.check(kind, bits, -14, len(bits) - len(plain(begun)), most)


class SomethingElse(PageFaults):
    def test_fewer_zeros_than_an_end_of_line_has(self):
        for kind in (0, 1):
            for ahead in begins_of_lines(kind):
                for zeros in range(11):
                    for behind in ("", "1", EOL, END_OF_KIND[kind]):
                        self.check(kind, ahead + "0" * zeros + "1" + behind, -13, len(ahead))

    def test_behind_a_full_row(self):
        # A code more, of either colour.
        for kind in (0, 1):
            for more in ("1000", "11", "000111", "11011", "0000001111", "1"):
                self.check(kind, ONE[:12 + kind] + ROW + more + END_OF_KIND[kind], -13, 12 + kind + len(ROW))

    def test_a_row_that_ends_on_zeros(self):
        # They are the code's, and not the end of line's.
        for zeros in range(8, 11):
            self.check(0, EOL + WHITE_0 + "0011 1000" + "0" * zeros + "1" + END_OF_KIND[0], -13, 28)
            self.check(1, ONE + WHITE_0 + "0011 1000" + "0" * zeros + "1" + END_OF_KIND[1], -13, 29)

    def test_behind_most_rows(self):
        # It's no row that has begun: that's what the end of line has to say.
        for kind in (0, 1):
            for ahead, rows in zip(begins_of_lines(kind), ROWS_AHEAD):
                self.check(kind, ahead + "0000 1" + END_OF_KIND[kind], -13, len(ahead), rows)

    def test_other_kinds_pages(self):
        self.check(0, "1" + END_OF_KIND[2], -13, 0)
        self.check(1, "001 0111 11 1" + END_OF_KIND[2], -13, 0)
        # The bit behind an end of line of kind 1 is a code's first of kind 0, and the other way round.
        self.check(0, ONE + ROW + END_OF_KIND[1], -12, 18)
        self.check(1, EOL + ROW + END_OF_KIND[0], -13, 12)

    def test_within_the_page_s_end(self):
        for kind in (0, 1):
            line = END_OF_KIND[kind][:12 + kind]
            for ahead in begins_of_lines(kind):
                for lines in range(2, 6):
                    good = ahead + line * lines
                    for wrong in ("1", "00000000001", "0000 1111", "0111 011 0111", "0" + EOL, "0" * 12, "0" * 50):
                        for behind in ("", "1" * 12, END_OF_KIND[kind]):
                            self.check(kind, good + wrong + behind, -13, len(good))

    def test_zeros_more_behind_the_page_s_first_end_of_line(self):
        # Not right behind it, so it's a row's; no code begins with so many zeros.
        self.check(0, EOL + "0" + END_OF_KIND[0], -11, 12)
        self.check(1, ONE + "0" + END_OF_KIND[1], -11, 13)
        self.check(1, ONE + ROW + EOL + "0" + "0" + END_OF_KIND[1], -11, 13 + len(ROW) + 13)


class ZeroWhereOneHasToStand(PageFaults):
    def test_before_the_first_row(self):
        for zeros in ("", "0", "0" * 20):
            place = len(zeros) + 12
            for behind in (SAME, ROW, "", "1" * 9, "0001", "0000000", "0" * 5, "00000000001"):
                self.check(1, zeros + EOL + "0" + behind + "1" + END_OF_KIND[1], -13, place)

    def test_before_the_first_row_at_the_data_s_end(self):
        self.check(1, "000" + EOL + "0", -13, 15)
        self.check(1, "0000" + EOL + "0" + "0" * 7, -13, 16)

    def test_before_a_page_s_end_of_no_rows(self):
        for most in (0, 1, MOST_ROWS):
            self.check(1, EOL + "0" + ONE * 5, -13, 12, most)
            self.check(1, "000" + EOL + "0" + EOL + "0", -13, 15, most)
            self.check(1, EOL + "0" + EOL, -13, 12, most)

    def test_before_a_page_s_end_of_rows(self):
        for ahead, rows in zip(begins_of_lines(1), ROWS_AHEAD):
            for zeros in ("", "00", "0" * 40):
                for behind in (ONE * 5, EOL + "0", EOL, EOL * 5, EOL + "1" + ROW):
                    for most in (rows, rows + 1, MOST_ROWS):
                        self.check(1, ahead + zeros + EOL + "0" + behind, -13, len(ahead + zeros) + 12, most)

    def test_within_the_page_s_end(self):
        for ahead in begins_of_lines(1):
            for lines in range(1, 6):
                good = ahead + ONE * lines
                for behind in ("", ONE * (5 - lines), EOL, "1" * 20):
                    self.check(1, good + EOL + "0" + behind, -13, len(good) + 12)


class DataEnd(PageFaults):
    def test_no_data(self):
        for width in (1, 8, 16384):
            for most in (0, 1, MOST_ROWS):
                self.assertEqual(fax_read(0, width, most, []), [-14, 0])
                self.assertEqual(fax_read(1, width, most, []), [-14, 0])
                self.assertEqual(fax_read(2, width, most, []), [-16, 0] if most == 0 else [-14, 0])

    def test_zeros_alone(self):
        # As many as there are, an end of line may stand behind them.
        for count in (1, 2, 3, 100, 10000):
            self.assertEqual(fax_read(0, 8, 5, [0] * count), [-14, 0])
            self.assertEqual(fax_read(1, 8, 5, [0] * count), [-14, 0])
            self.assertEqual(fax_read(2, 8, 5, [0] * count), [-11, 0])

    def test_within_an_end_of_line_that_begins_a_row_or_its_zeros(self):
        for kind in (0, 1):
            for ahead, rows in zip(begins_of_lines(kind)[1:], ROWS_AHEAD[1:]):
                for zeros in list(range(30)) + [1000]:
                    self.check_end(kind, ahead, "0" * zeros)
                    # Behind the most rows the page's end has still to be there.
                    self.check_end(kind, ahead, "0" * zeros, rows)

    def test_right_behind_an_end_of_line_of_kind_1(self):
        for ahead, rows in zip(begins_of_lines(1), ROWS_AHEAD):
            for most in (rows, rows + 1, MOST_ROWS):
                self.check_end(1, ahead + EOL, "", most)

    def test_right_behind_an_end_of_line_of_kind_0(self):
        # There a row has to be, and it's one too many if there are most of them.
        self.check_end(0, EOL, "")
        self.check_end(0, EOL + ROW + EOL, "")
        self.check_end(1, ONE, "")
        self.check_end(1, ONE + ROW + ONE, "")
        self.check_end(1, ONE + ROW + EOL + "0", "")
        for kind, bits in ((0, "0000" + EOL), (1, "000" + ONE)):
            self.check(kind, bits, -16, 16, 0)

    def test_what_isn_t_a_whole_end_of_line_is_taken_for_a_row(self):
        for kind in (0, 1):
            line = END_OF_KIND[kind][:12 + kind]
            # So many zeros a code may begin with.
            for zeros in range(8):
                self.check_end(kind, line, "0" * zeros)
                self.check_end(kind, line + ROW + line, "0" * zeros)
            for zeros in (8, 9, 10, 11):
                for ahead in (line, line + ROW + line):
                    bits = to_byte_s_end(kind, ahead + "0" * zeros)
                    self.check(kind, bits, -11, len(bits) - zeros)
                    self.check(kind, bits, -16, len(bits) - zeros, ahead.count(ROW))

    def test_within_the_page_s_end(self):
        for kind in (0, 1):
            line = END_OF_KIND[kind][:12 + kind]
            for ahead in begins_of_lines(kind):
                for lines in range(2, 6):
                    for zeros in range(12):
                        self.check_end(kind, ahead + line * lines, "0" * zeros)
                    if kind == 1:
                        self.check_end(1, ahead + line * (lines - 1) + EOL, "")
                        self.check_end(1, ahead + line * lines + EOL, "")

    def test_within_the_page_s_end_at_a_0(self):
        # The 0 comes first, whatever is lacking behind it.
        bits = to_byte_s_end(1, ONE * 3 + EOL + "0")
        self.check(1, bits, -13, len(bits) - 1)

    def test_kind_2_behind_its_rows(self):
        for rows in range(1, 9):
            for zeros in range(6):
                self.check_end(2, "1" * rows, "0" * zeros)
            self.check(2, "1" * 8 * rows, -14, 8 * rows)
            self.check(2, "1" * 8 * rows, -16, 8 * rows, 8 * rows)

    def test_kind_2_within_the_page_s_end(self):
        # What isn't two whole ends of line is a row, and no way begins so.
        for bits in (EOL, EOL + "00000000000", EOL + "0000 1", EOL + "0" + EOL, "0" + EOL + EOL, "000000"):
            for rows in (0, 1, 5, 9):
                ahead = to_byte_s_end(2, "1" * rows + bits)[:-len(plain(bits))]
                self.check(2, ahead + bits, -11, len(ahead))
                self.check(2, ahead + bits, -11, len(ahead), len(ahead) + 1)
                self.check(2, ahead + bits, -16, len(ahead), len(ahead))


class MoreBehindThePage(PageFaults):
    def pages(self, kind):
        """A page's bits that end where each bit of a byte does."""
        if kind == 2:
            return ["1" * rows + END_OF_KIND[2] for rows in range(8)]
        lines = begins_of_lines(kind)
        return ["0" * zeros + ahead + END_OF_KIND[kind] for ahead in lines for zeros in range(8)]

    def test_nothing_but_fill(self):
        for kind in (0, 1, 2):
            for bits in self.pages(kind):
                self.assertGreaterEqual(fax_read(kind, 8, MOST_ROWS, bytes_of(bits))[0], 0)

    def test_a_1_within_the_last_byte(self):
        for kind in (0, 1, 2):
            for bits in self.pages(kind):
                fill = -len(bits) % 8
                for one in range(fill):
                    self.check(kind, bits + "0" * one + "1", -15, len(bits))
                self.check(kind, bits + "1" * fill + "0" * 8, -15, len(bits))

    def test_zeros_beyond_the_last_byte(self):
        for kind in (0, 1, 2):
            for bits in self.pages(kind):
                whole = bits + "0" * (-len(bits) % 8)
                for more in (1, 2, 3, 1000):
                    self.check(kind, whole + "0" * 8 * more, -15, len(bits))

    def test_something_else_behind_it(self):
        for kind in (0, 1, 2):
            for bits in self.pages(kind):
                self.check(kind, bits + EOL, -15, len(bits))
                self.check(kind, bits + END_OF_KIND[kind], -15, len(bits))
                self.check(kind, bits + bits, -15, len(bits))
                self.check(kind, bits + "1" * 8, -15, len(bits))
                self.check(kind, bits + "0" * 7 + "1", -15, len(bits))

    def test_an_end_of_line_too_many(self):
        self.check(0, EOL * 7, -15, 72)
        self.check(1, ONE * 7, -15, 78)
        self.check(2, EOL * 3, -15, 24)
        self.check(2, EOL * 6, -15, 24)


class AnotherRow(PageFaults):
    def test_behind_most_rows_of_kinds_0_and_1(self):
        for kind in (0, 1):
            line = END_OF_KIND[kind][:12 + kind]
            for most in range(6):
                ahead = (line + ROW) * most + line
                for zeros in ("", "0", "0" * 25):
                    bits = ahead[:-len(line)] + zeros + line
                    for behind in (ROW + END_OF_KIND[kind], ROW, "1" * 30, "00000000", "0" * 40, "0000 1", EOL[:11]):
                        self.check(kind, bits + behind, -16, len(bits), most)

    def test_behind_most_rows_before_a_0(self):
        for most in range(1, 5):
            ahead = (ONE + ROW) * most + EOL + "0"
            for behind in (SAME, "0001", "0000000", "0" * 30, ROW, "000000000011", "1" * 30):
                self.check(1, ahead + behind, -16, len(ahead), most)
                self.check(1, ahead + behind + END_OF_KIND[1], -16, len(ahead), most)

    def test_before_a_0_of_a_first_row(self):
        for behind in (ROW, SAME, "1", "0000000", "00000000001", "0" * 12):
            for zeros in (0, 1, 13):
                self.check(1, "0" * zeros + EOL + "0" + behind, -16, zeros + 13, 0)
                self.check(1, "0" * zeros + EOL + "0" + behind, -13, zeros + 12, 1)
        self.check(1, "000" + EOL + "0", -16, 16, 0)
        self.check(1, "000" + EOL + "0", -13, 15, 1)

    def test_behind_most_rows_of_kind_2(self):
        for most in range(6):
            for behind in (SAME, "0001", "0000000", EOL, EOL + "0" + EOL, EOL + "00000000000", "1" * 30, "0" * 60):
                self.check(2, "1" * most + behind, -16, most, most)
                self.check(2, "1" * most + behind + "01" + END_OF_KIND[2], -16, most, most)

    def test_as_many_rows_as_there_are(self):
        for rows in range(5):
            page = (EOL + ROW) * rows + END_OF_KIND[0]
            self.assertEqual(fax_read(0, 8, rows, bytes_of(page)), [rows] + [0x3C] * rows)
            page = (ONE + ROW) * rows + END_OF_KIND[1]
            self.assertEqual(fax_read(1, 8, rows, bytes_of(page)), [rows] + [0x3C] * rows)
            page = "1" * rows + END_OF_KIND[2]
            self.assertEqual(fax_read(2, 8, rows, bytes_of(page)), [rows] + [0] * rows)

    def test_16384_rows_and_one_more(self):
        self.check(0, (EOL + ROW) * MOST_ROWS + EOL + ROW, -16, 23 * MOST_ROWS + 12)
        self.check(1, ONE + ROW + (EOL + "0" + SAME) * (MOST_ROWS - 1) + EOL + "0", -16, 16 * MOST_ROWS + 21)
        self.check(2, "1" * MOST_ROWS + "1" + END_OF_KIND[2], -16, MOST_ROWS)


class TheFirstOne(PageFaults):
    def test_of_a_row_s_fault_and_one_row_too_many(self):
        wrong = EOL + "0000 0000"
        self.check(0, EOL + ROW + wrong, -11, 35, 2)
        self.check(0, EOL + ROW + wrong, -16, 35, 1)
        self.check(0, EOL + "10100" + EOL + ROW, -12, 12, 1)
        self.check(0, EOL + "10100" + EOL + ROW, -16, 12, 0)
        self.check(2, "0001", -12, 0, 1)
        self.check(2, "0001", -16, 0, 0)

    def test_of_a_row_s_fault_and_what_is_behind_it(self):
        self.check(0, EOL + ROW + "1" + "0000 0000 1", -13, 23, 1)
        self.check(0, EOL + "00000000" + "1", -11, 12, 1)
        self.check(2, "1" + "0001" + "0000000", -12, 1, 5)
        self.check(2, "1" + "0000000" + "0001", -11, 1, 5)

    def test_of_a_fault_within_the_page_s_end_and_behind_it(self):
        self.check(0, EOL * 5 + "1" + EOL + "1" * 30, -13, 60, 0)
        self.check(1, ONE * 4 + EOL + "0" + EOL + "0" + "1" * 30, -13, 64, 0)

    def test_of_one_row_too_many_and_the_page_s_end_s(self):
        self.check(0, (EOL + ROW) * 2 + EOL * 3 + "1", -16, 35, 1)
        self.check(0, (EOL + ROW) * 2 + EOL * 3 + "1", -13, 82, 2)
        self.check(1, (ONE + ROW) * 2 + EOL + "0" + EOL, -16, 37, 1)
        self.check(1, (ONE + ROW) * 2 + EOL + "0" + EOL, -13, 60, 2)


if __name__ == "__main__":
    unittest.main()
