"""What fax_write writes is read back as it was, the bits behind each row's end cleared."""

import unittest

from faxpages.pages import fax_read, fax_write
from pagehelp import MOST_ROWS, PLENTY, answer_of_rows, picture_of, points_of

KINDS = (0, 1, 2)


def scattered_rows(width, rows, seed, longest):
    """Rows of runs as if thrown, each behind the first partly like the one above."""
    state = seed
    drawn = []
    for number in range(rows):
        row = drawn[-1][number % 4:width * (number % 5) // 5] if drawn else ""
        while len(row) < width:
            state = (state * 1103515245 + 12345) & 0x7FFFFFFF
            row += ".#"[(state >> 8) & 1] * (1 + (state >> 12) % longest)
        drawn.append(row[:width])
    return drawn


class ReadBack(unittest.TestCase):
    def check(self, kind, k, rows, most=None):
        width = len(rows[0])
        written = fax_write(kind, k, width, len(rows), PLENTY, picture_of(rows, "#"))
        got = fax_read(kind, width, len(rows) if most is None else most, written[1:])
        if got != answer_of_rows(rows):
            self.fail("kind %d, k %d, width %d: %r" % (kind, k, width, got[:20]))

    def check_each(self, rows, ks):
        self.check(0, 1, rows)
        self.check(2, 1, rows)
        for k in ks:
            self.check(1, k, rows)

    def test_one_page_to_the_byte(self):
        self.assertEqual(fax_read(2, 8, 1, [0x2E, 0xE0, 0x02, 0x00, 0x20]), [1, 0x3C])
        data = [0x00, 0x17, 0x6E, 0x00, 0x20, 0x02, 0x00, 0x20, 0x02, 0x00, 0x20, 0x02]
        self.assertEqual(fax_read(0, 8, 1, data), [1, 0x3C])
        data = [0x00, 0x1B, 0xB7, 0x00, 0x18, 0x00, 0xC0, 0x06, 0x00, 0x30, 0x01, 0x80, 0x0C]
        self.assertEqual(fax_read(1, 8, 1, data), [1, 0x3C])

    def test_every_width_to_70(self):
        for width in range(1, 71):
            self.check_each(scattered_rows(width, 9, width, 1 + width // 3), (1, 2, 3, 4, 9, 10, PLENTY))

    def test_wider_ones(self):
        for width in (127, 128, 129, 200, 511, 1000, 1727, 1728, 1729, 1791, 1792, 1793, 2559, 2560, 2561, 2624):
            for longest in (3, 200, 3000):
                self.check_each(scattered_rows(width, 6, width, longest), (1, 2, 4))

    def test_pairs_of_narrow_rows(self):
        for width in range(1, 6):
            every = [points_of(value, width) for value in range(1 << width)]
            for above in every:
                for here in every:
                    self.check_each([above, here], (1, 2))

    def test_no_rows(self):
        for kind in KINDS:
            for width in (1, 7, 8, 9, 16384):
                written = fax_write(kind, 3, width, 0, PLENTY, [])
                for most in (0, 1, MOST_ROWS):
                    self.assertEqual(fax_read(kind, width, most, written[1:]), [0])

    def test_the_most_width(self):
        for width in (16383, 16384):
            self.check_each(["." * width, "#" * width, "#" * width, "." * width], (1, 2, 3))
            half = width // 2
            self.check_each(["." * half + "#" * (width - half), "#" * half + "." * (width - half)], (1, 2))
            self.check_each(["#" + "." * (width - 1), "." * (width - 1) + "#"], (1, 2))
            self.check_each([("#." * width)[:width], (".#" * width)[:width]], (1, 2))
            self.check_each(scattered_rows(width, 5, 7, 6000), (1, 2, 4))

    def test_the_most_rows(self):
        rows = ["#", ".", "#", "#"] * 4096
        self.check_each(rows, (1, 2, 3, 16384))

    def test_runs_of_each_length(self):
        for colour in ("#.", ".#"):
            rows = [colour[0] * length + colour[1] * (2700 - length) for length in range(1, 2700, 7)]
            self.check_each(rows, (1, 4))
        rows = ["." * (130 - length) + "#" * length for length in range(131)]
        self.check_each(rows, (1, 50))

    def test_most_may_be_more(self):
        rows = ["..##.", "##...", "....."]
        for kind in KINDS:
            for most in (3, 4, 1000, MOST_ROWS):
                self.check(kind, 2, rows, most)

    def test_bits_behind_a_row_s_end_are_cleared(self):
        for kind in KINDS:
            written = fax_write(kind, 2, 3, 3, PLENTY, [0xFF, 0x5F, 0x1F])
            self.assertEqual(fax_read(kind, 3, 3, written[1:]), [3, 0xE0, 0x40, 0x00])
            written = fax_write(kind, 2, 9, 2, PLENTY, [0x0F, 0x7F, 0xF0, 0xFF])
            self.assertEqual(fax_read(kind, 9, 2, written[1:]), [2, 0x0F, 0x00, 0xF0, 0x80])


if __name__ == "__main__":
    unittest.main()
