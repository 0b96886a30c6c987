"""Pages beside what the document's words say of them, taken point by point."""

import unittest

from faxpages.pages import fax_write
from pagehelp import PLENTY, answer_of, page_bits, picture_of, points_of


class ByTheWords(unittest.TestCase):
    def check(self, kind, k, rows):
        width = len(rows[0])
        got = fax_write(kind, k, width, len(rows), PLENTY, picture_of(rows, "#"))
        if got != answer_of(page_bits(kind, k, width, rows)):
            self.fail("kind %d, k %d: %r" % (kind, k, rows))

    def test_all_pairs_of_narrow_rows(self):
        for width in range(1, 7):
            every = [points_of(value, width) for value in range(1 << width)]
            for above in every:
                for here in every:
                    self.check(2, 1, [above, here])

    def test_all_narrow_rows_in_each_kind(self):
        for width in range(1, 7):
            every = [points_of(value, width) for value in range(1 << width)]
            for kind in (0, 1, 2):
                for k in (1, 2, 3, 7):
                    self.check(kind, k, every)

    def test_pages_of_scattered_runs(self):
        state = 1
        for page in range(60):
            rows = []
            for number in range(8):
                row = ""
                width = 40 + page * 11
                while len(row) < width:
                    state = (state * 1103515245 + 12345) & 0x7FFFFFFF
                    row += ".#"[(state >> 8) & 1] * (1 + ((state >> 12) & ((1 << (page % 8)) - 1)))
                rows.append(row[:width])
                # Most rows of a scanned page are much like the one above.
                rows.append("." * (number % 5) + row[: width - number % 5])
            for kind in (0, 1, 2):
                self.check(kind, 1 + page % 5, rows)


if __name__ == "__main__":
    unittest.main()
