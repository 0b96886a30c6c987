"""The edges that the document names, what is refused, and what every call holds to."""

import contextlib
import io
import unittest

from faxpages.pages import fax_write
from pagehelp import END_OF_KIND, EOL, PLENTY, answer_of, bytes_of, picture_of

KINDS = (0, 1, 2)


class NoRows(unittest.TestCase):
    def test_only_the_page_s_end(self):
        self.assertEqual(fax_write(0, 1, 8, 0, 9, []), [9] + [0x00, 0x10, 0x01] * 3)
        self.assertEqual(
            fax_write(1, 1, 8, 0, 10, []), [10, 0x00, 0x18, 0x00, 0xC0, 0x06, 0x00, 0x30, 0x01, 0x80, 0x0C])
        self.assertEqual(fax_write(2, 1, 8, 0, 3, []), [3, 0x00, 0x10, 0x01])

    def test_of_any_width(self):
        for kind in KINDS:
            for width in (1, 7, 9, 16384):
                self.assertEqual(fax_write(kind, 5, width, 0, PLENTY, []), answer_of(END_OF_KIND[kind]))


class Widths(unittest.TestCase):
    def check(self, kind, width, rows, picture, bits):
        got = fax_write(kind, 1, width, rows, PLENTY, picture)
        self.assertEqual(got, answer_of(bits + END_OF_KIND[kind]))

    def test_width_1(self):
        self.check(0, 1, 3, [0x80, 0x00, 0x80], EOL + "00110101 010" + EOL + "000111" + EOL + "00110101 010")
        self.check(1, 1, 2, [0x00, 0x80], EOL + "1" + "000111" + EOL + "1" + "00110101 010")
        # 1 to the left and straight; 1 to the right, for b2 is not before the width; straight.
        self.check(2, 1, 3, [0x80, 0x00, 0x00], "010 1" + "011" + "1")
        self.check(2, 1, 2, [0x80, 0x80], "010 1" + "1 1")

    def test_bits_behind_the_end_count_for_nothing(self):
        self.check(0, 1, 2, [0x7F, 0xFF], EOL + "000111" + EOL + "00110101 010")
        self.check(2, 1, 2, [0x7F, 0xFF], "1" + "010 1")
        self.check(0, 9, 2, [0x0F, 0x7F, 0x00, 0xFF], EOL + "1011 011 000111" + EOL + "10011 010")
        self.check(2, 9, 2, [0x0F, 0x7F, 0x00, 0xFF], "001 1011 011  1" + "001 10011 010")

    def test_any_bits_behind_the_end(self):
        rows = ["#.#", "...", "###", ".##"]
        for width in range(3, 20):
            drawn = [row + "." * (width - 3) for row in rows]
            for kind in KINDS:
                plain = fax_write(kind, 2, width, 4, PLENTY, picture_of(drawn, "."))
                filled = fax_write(kind, 2, width, 4, PLENTY, picture_of(drawn, "#"))
                self.assertEqual(plain, filled)

    def test_rows_begin_at_whole_bytes(self):
        self.check(0, 12, 2, [0xFF, 0xF0, 0x00, 0x10], EOL + "00110101 0000111" + EOL + "01000 010")

    def test_the_most_width(self):
        thrice = "000000011111 000000011111 000000011111"
        # 8192 is three times 2560 and 512.
        row = "." * 8192 + "#" * 8192
        bits = thrice + "01100101 00110101" + thrice + "0000001101100 0000110111"
        self.check(0, 16384, 1, picture_of([row]), EOL + bits)
        self.check(2, 16384, 2, picture_of([row, row]), "001" + bits + "1 1")

    def test_the_most_rows(self):
        self.check(2, 1, 16384, [0x00] * 16384, "1" * 16384)
        self.check(0, 1, 16384, [0x80] * 16384, (EOL + "00110101 010") * 16384)
        got = fax_write(1, 16383, 1, 16384, PLENTY, [0x00] * 16384)
        bits = EOL + "1 000111" + (EOL + "0 1") * 16382 + EOL + "1 000111"
        self.assertEqual(got, answer_of(bits + END_OF_KIND[1]))


class LastByte(unittest.TestCase):
    def test_zeros_fill_it(self):
        # In kind 2 a white row is one bit, so that each fill from none to seven comes up.
        for rows in range(17):
            got = fax_write(2, 1, 4, rows, PLENTY, [0x00] * rows)
            self.assertEqual(got[0], (rows + 24 + 7) // 8)
            self.assertEqual(got[1:], bytes_of("1" * rows + EOL * 2))


class Most(unittest.TestCase):
    def test_just_as_large_as_needed(self):
        for kind, needed in [(0, 12), (1, 13), (2, 5)]:
            answer = fax_write(kind, 1, 8, 1, PLENTY, [0x3C])
            self.assertEqual(answer[0], needed)
            self.assertEqual(len(answer), needed + 1)
            self.assertEqual(fax_write(kind, 1, 8, 1, needed, [0x3C]), answer)
            self.assertEqual(fax_write(kind, 1, 8, 1, needed + 1, [0x3C]), answer)

    def test_smaller_by_one(self):
        for kind, needed in [(0, 12), (1, 13), (2, 5)]:
            self.assertEqual(fax_write(kind, 1, 8, 1, needed - 1, [0x3C]), [-2])

    def test_without_rows(self):
        for kind, needed in [(0, 9), (1, 10), (2, 3)]:
            self.assertEqual(fax_write(kind, 1, 8, 0, needed - 1, []), [-2])
            self.assertEqual(fax_write(kind, 1, 8, 0, needed, [])[0], needed)

    def test_0(self):
        for kind in KINDS:
            self.assertEqual(fax_write(kind, 1, 8, 0, 0, []), [-2])
            self.assertEqual(fax_write(kind, 1, 8, 1, 0, [0x3C]), [-2])

    def test_a_byte_begun_counts_whole(self):
        self.assertEqual(fax_write(2, 1, 4, 1, 3, [0x00]), [-2])
        self.assertEqual(fax_write(2, 1, 4, 1, 4, [0x00])[0], 4)


class Refused(unittest.TestCase):
    def check(self, kind, k, width, rows):
        # Whatever most is: -1 comes before -2.
        for most in (0, 1, 100, PLENTY):
            self.assertEqual(fax_write(kind, k, width, rows, most, []), [-1])

    def test_kind_above_2(self):
        for kind in (3, 4, 255, 4294967295):
            self.check(kind, 1, 8, 0)
            self.check(kind, 1, 8, 1)

    def test_k_0_for_each_kind(self):
        for kind in KINDS:
            self.check(kind, 0, 8, 0)
            self.check(kind, 0, 8, 1)

    def test_width_0(self):
        for kind in KINDS:
            self.check(kind, 1, 0, 0)
            self.check(kind, 1, 0, 1)

    def test_width_above_16384(self):
        for kind in KINDS:
            for width in (16385, 16392, 4294967295):
                self.check(kind, 1, width, 0)
                self.check(kind, 1, width, 1)

    def test_rows_above_16384(self):
        for kind in KINDS:
            for rows in (16385, 4294967295):
                self.check(kind, 1, 8, rows)

    def test_all_at_once(self):
        self.check(3, 0, 0, 16385)


class EachCall(unittest.TestCase):
    def setUp(self):
        self.picture = [0x3C, 0x7F, 0x00, 0xFF, 0xF0, 0x0F]

    def test_picture_stays_as_it_was(self):
        before = list(self.picture)
        for kind in KINDS:
            for most in (0, PLENTY):
                fax_write(kind, 2, 12, 3, most, self.picture)
                self.assertEqual(self.picture, before)

    def test_second_call_answers_as_the_first(self):
        for kind in KINDS:
            first = fax_write(kind, 2, 12, 3, PLENTY, self.picture)
            kept = list(first)
            # What is done to an answer, and other calls in between, don't show in the next one.
            first.append(0)
            first[1] = 77
            fax_write(1, 1, 8, 6, PLENTY, self.picture)
            fax_write(2, 1, 8, 6, 0, self.picture)
            fax_write(3, 1, 8, 6, 0, [])
            self.assertEqual(fax_write(kind, 2, 12, 3, PLENTY, self.picture), kept)

    def test_refusals_are_new_each_time(self):
        for kind in (0, 3):
            first = fax_write(kind, 1, 8, 0, 0, [])
            kept = list(first)
            first.append(5)
            self.assertEqual(fax_write(kind, 1, 8, 0, 0, []), kept)

    def test_whole_numbers_in_a_list(self):
        for kind in (0, 1, 2, 3):
            for most in (0, PLENTY):
                answer = fax_write(kind, 2, 12, 3, most, self.picture)
                self.assertIs(type(answer), list)
                for number in answer:
                    self.assertIs(type(number), int)

    def test_nothing_is_printed(self):
        said = io.StringIO()
        with contextlib.redirect_stdout(said), contextlib.redirect_stderr(said):
            for kind in (0, 1, 2, 3):
                fax_write(kind, 2, 12, 3, PLENTY, self.picture)
        self.assertEqual(said.getvalue(), "")

    def test_the_largest_picture(self):
        # Single points in rows of the most width, as many as a picture takes: no way through them may nest.
        for kind, alone in [(0, 48), (1, 24)]:
            answer = fax_write(kind, 2, 16384, 48, PLENTY, [0x55] * (48 * 2048))
            row_bits = 8192 * (6 + 3)
            # Straight down at each change, the first at 1, and at the row's end.
            by_above_bits = 16384
            bits = alone * row_bits + (48 - alone) * by_above_bits + 48 * (12 + kind) + 6 * (12 + kind)
            self.assertEqual(answer[0], (bits + 7) // 8)


if __name__ == "__main__":
    unittest.main()
