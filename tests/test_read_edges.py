"""What fax_read refuses, what each call of it holds to, and its largest inputs and answers."""

import contextlib
import io
import unittest

from faxpages.pages import fax_read, fax_write
from pagehelp import END_OF_KIND, EOL, MOST_ROWS, PLENTY, answer_of_rows, bytes_of

KINDS = (0, 1, 2)
ROW = "0111 011 0111"

# Pages and what isn't one, with what's answered: kind, width, most, bits, answer.
CALLS = (
    (0, 8, 1, EOL + ROW + END_OF_KIND[0], [1, 0x3C]),
    (1, 8, 2, EOL + "1" + ROW + EOL + "0 111" + END_OF_KIND[1], [2, 0x3C, 0x3C]),
    (2, 8, 3, "001 0111 011 1 111 0001 1" + END_OF_KIND[2], [3, 0x3C, 0x3C, 0x00]),
    (2, 9, 0, END_OF_KIND[2], [0]),
    (0, 8, 1, EOL + "00000000 1", [-11, 12]),
    (2, 8, 1, "0001" + END_OF_KIND[2], [-12, 0]),
    (1, 8, 1, EOL + "0" + ROW + END_OF_KIND[1], [-13, 12]),
    (0, 8, 1, "", [-14, 0]),
    (2, 8, 1, "1" + END_OF_KIND[2] + "1", [-15, 25]),
    (1, 8, 0, EOL + "1" + ROW + END_OF_KIND[1], [-16, 13]),
    (3, 8, 1, "", [-1]),
)


class Refused(unittest.TestCase):
    def test_kind_above_2(self):
        for kind in (3, 4, 5, 10, 255, 256, 65536, 4294967294, 4294967295):
            for width, most in ((1, 0), (8, 5), (16384, 16384)):
                self.assertEqual(fax_read(kind, width, most, []), [-1])

    def test_width_0(self):
        for kind in KINDS:
            for most in (0, 1, 16384):
                self.assertEqual(fax_read(kind, 0, most, []), [-1])

    def test_width_above_16384(self):
        for kind in KINDS:
            for width in (16385, 16386, 32768, 65536, 4294967295):
                self.assertEqual(fax_read(kind, width, 5, []), [-1])
            self.assertNotEqual(fax_read(kind, 16384, 5, []), [-1])

    def test_most_above_16384(self):
        for kind in KINDS:
            for most in (16385, 16386, 32768, 65536, 4294967295):
                self.assertEqual(fax_read(kind, 8, most, []), [-1])
            self.assertNotEqual(fax_read(kind, 8, 16384, []), [-1])

    def test_several_at_once(self):
        self.assertEqual(fax_read(3, 0, 16385, []), [-1])
        self.assertEqual(fax_read(4294967295, 4294967295, 4294967295, []), [-1])
        self.assertEqual(fax_read(0, 0, 16385, []), [-1])
        self.assertEqual(fax_read(3, 16385, 0, []), [-1])

    def test_what_is_just_not_refused(self):
        self.assertEqual(fax_read(0, 1, 0, []), [-14, 0])
        self.assertEqual(fax_read(0, 16384, 16384, []), [-14, 0])
        self.assertEqual(fax_read(2, 16384, 16384, bytes_of(END_OF_KIND[2])), [0])
        self.assertEqual(fax_read(2, 1, 0, bytes_of(END_OF_KIND[2])), [0])


class EachCall(unittest.TestCase):
    def test_data_stays_as_it_was(self):
        for kind, width, most, bits, answer in CALLS:
            data = bytes_of(bits)
            self.assertEqual(fax_read(kind, width, most, data), answer)
            self.assertEqual(data, bytes_of(bits))

    def test_second_call_answers_as_the_first(self):
        for kind, width, most, bits, answer in CALLS:
            data = bytes_of(bits)
            for time in range(3):
                self.assertEqual(fax_read(kind, width, most, data), answer)

    def test_whatever_call_is_ahead(self):
        for first in CALLS:
            for kind, width, most, bits, answer in CALLS:
                fax_read(first[0], first[1], first[2], bytes_of(first[3]))
                self.assertEqual(fax_read(kind, width, most, bytes_of(bits)), answer)

    def test_an_answer_that_is_changed_changes_no_other(self):
        for kind, width, most, bits, answer in CALLS:
            data = bytes_of(bits)
            got = fax_read(kind, width, most, data)
            got[0] += 7
            got.append(7)
            self.assertEqual(fax_read(kind, width, most, data), answer)
            self.assertEqual(data, bytes_of(bits))

    def test_an_answer_is_never_what_was_handed_in(self):
        data = bytes_of(CALLS[0][3])
        got = fax_read(0, 8, 1, data)
        data[2] = 0
        self.assertEqual(got, [1, 0x3C])

    def test_writing_in_between(self):
        for kind, width, most, bits, answer in CALLS:
            written = fax_write(1, 2, 8, 3, PLENTY, [0x3C, 0x18, 0xFF])
            self.assertEqual(fax_read(kind, width, most, bytes_of(bits)), answer)
            self.assertEqual(fax_write(1, 2, 8, 3, PLENTY, [0x3C, 0x18, 0xFF]), written)

    def test_whole_numbers_in_a_list(self):
        for kind, width, most, bits, answer in CALLS:
            got = fax_read(kind, width, most, bytes_of(bits))
            self.assertIs(got.__class__, list)
            for number in got:
                self.assertIs(number.__class__, int)

    def test_nothing_is_printed(self):
        out = io.StringIO()
        with contextlib.redirect_stdout(out), contextlib.redirect_stderr(out):
            for kind, width, most, bits, answer in CALLS:
                fax_read(kind, width, most, bytes_of(bits))
        self.assertEqual(out.getvalue(), "")


class LargestInputs(unittest.TestCase):
    def test_100000_bytes_of_rows(self):
        # Every point differs from the one before: each row is one bit for each change.
        row = "#." * 8192
        bits = ("001 00110101 010" + "001 000111 010" * 8191 + "1").replace(" ", "")
        more = (100000 * 8 - len(bits) - 24) // 16385
        data = bytes_of(bits + "1" * 16385 * more + END_OF_KIND[2])
        self.assertGreater(len(data), 95000)
        got = fax_read(2, 16384, MOST_ROWS, data)
        self.assertTrue(got == answer_of_rows([row] * (more + 1)))

    def test_passed_over_very_often(self):
        above = "001 00110101 010" + "001 000111 010" * 8191 + "1"
        white = "0001" * 8192 + "1"
        black = "1" + "0001" * 8191 + "011"
        got = fax_read(2, 16384, 2, bytes_of(above + white + END_OF_KIND[2]))
        self.assertTrue(got == answer_of_rows(["#." * 8192, "." * 16384]))
        got = fax_read(2, 16384, 2, bytes_of(above + black + END_OF_KIND[2]))
        self.assertTrue(got == answer_of_rows(["#." * 8192, "#" * 16384]))

    def test_100000_bytes_of_zeros(self):
        self.assertEqual(fax_read(0, 8, 5, [0] * 100000), [-14, 0])
        self.assertEqual(fax_read(1, 8, 5, [0] * 100000), [-14, 0])
        self.assertEqual(fax_read(2, 8, 5, [0] * 100000), [-11, 0])
        data = [0] * 99990 + bytes_of("0000" + END_OF_KIND[0])
        self.assertEqual(fax_read(0, 8, 5, data), [0])
        page = bytes_of(END_OF_KIND[2])
        self.assertEqual(fax_read(2, 8, 5, page + [0] * (100000 - len(page))), [-15, 24])

    def test_zeros_between_many_rows(self):
        bits = ("0" * 37 + EOL + "1" + ROW.replace(" ", "")) * 12000
        got = fax_read(1, 8, MOST_ROWS, bytes_of(bits + END_OF_KIND[1]))
        self.assertTrue(got == [12000] + [0x3C] * 12000)

    def test_very_many_codes_in_a_row(self):
        # width + 4 runs of 0.
        bits = EOL + ("00110101" + "0000110111") * 8193 + "00110101"
        self.assertEqual(fax_read(0, 16384, 1, bytes_of(bits + "0000110111")), [-12, len(bits) + 10])
        # Each row of 256 codes of 64 and one of 0.
        bits = (EOL + "11011" * 256 + "00110101") * 600
        got = fax_read(0, 16384, 600, bytes_of(bits + END_OF_KIND[0]))
        self.assertTrue(got == [600] + [0] * 2048 * 600)

    def test_an_answer_of_ten_million_numbers(self):
        got = fax_read(2, 16384, MOST_ROWS, bytes_of("1" * 4882 + END_OF_KIND[2]))
        self.assertEqual(len(got), 1 + 2048 * 4882)
        self.assertEqual(got[0], 4882)
        self.assertFalse(any(got[1:]))

    def test_a_fault_behind_the_largest_picture(self):
        # Only the fault is answered, however large the picture ahead of it were.
        bits = "1" * MOST_ROWS + END_OF_KIND[2]
        self.assertEqual(fax_read(2, 16384, MOST_ROWS, bytes_of(bits + "1")), [-15, MOST_ROWS + 24])
        self.assertEqual(fax_read(2, 16384, MOST_ROWS, bytes_of("1" + bits)), [-16, MOST_ROWS])


if __name__ == "__main__":
    unittest.main()
