"""Any bytes beside what the document's words say of them, taken point by point."""

import unittest

from faxpages.pages import fax_read, fax_write
from pagehelp import (
    END_OF_KIND, EOL, LONG, MOST_ROWS, PLENTY, SHORT, STRAIGHT, bytes_of, picture_of, plain, points_of, reading_of)

KINDS = (0, 1, 2)


class Thrown:
    """Numbers as if thrown, the same ones each time."""

    def __init__(self, seed):
        self.state = seed

    def below(self, end):
        self.state = (self.state * 1103515245 + 12345) & 0x7FFFFFFF
        return (self.state >> 8) % end

    def one_of(self, things):
        return things[self.below(len(things))]


class Beside(unittest.TestCase):
    def check(self, kind, width, most, data):
        got = fax_read(kind, width, most, data)
        asked = reading_of(kind, width, most, data)
        if got != asked:
            bits = "".join(format(byte, "08b") for byte in data)
            self.fail("kind %d, width %d, most %d, %s: %r, not %r" % (kind, width, most, bits, got, asked))
        return got[0]


class ShortData(Beside):
    def test_all_of_one_byte_and_some_of_two(self):
        for kind in KINDS:
            for width in (1, 2, 8):
                for most in (0, 1, 5):
                    for first in range(256):
                        self.check(kind, width, most, [first])
                    for number in range(0, 65536, 97):
                        self.check(kind, width, most, [number >> 8, number & 255])

    def test_all_of_ten_bits_ahead_of_the_page_s_end(self):
        for number in range(1024):
            bits = format(number, "010b")
            self.check(2, 3, 5, bytes_of(bits + END_OF_KIND[2]))
            self.check(2, 8, 5, bytes_of("001 0111 11 1" + bits + END_OF_KIND[2]))
            self.check(1, 5, 5, bytes_of(EOL + "1 000111 11 0111" + EOL + "0" + bits + END_OF_KIND[1]))
            self.check(1, 4, 5, bytes_of(EOL + bits + END_OF_KIND[1]))
            self.check(0, 4, 5, bytes_of(EOL + bits + END_OF_KIND[0]))

    def test_all_of_thirteen_bits_where_a_code_has_to_be(self):
        for number in range(8192):
            bits = format(number, "013b")
            self.check(0, 3000, 1, bytes_of(EOL + bits))
            self.check(0, 3000, 1, bytes_of(EOL + "0111" + bits))
        for number in range(128):
            self.check(2, 8, 5, bytes_of("001 0111 11" + format(number, "07b") + "1"))

    def test_all_of_twelve_bits_within_the_page_s_end(self):
        for number in range(4096):
            bits = format(number, "012b")
            self.check(0, 8, 1, bytes_of(EOL + EOL + bits + EOL * 3))
        for number in range(8192):
            self.check(1, 8, 1, bytes_of((EOL + "1") * 2 + format(number, "013b") + (EOL + "1") * 3))


def row_like(thrown, above, width):
    """A row partly like the one above."""
    row = above[:thrown.below(width + 1)]
    while len(row) < width:
        row += thrown.one_of(".#") * (1 + thrown.below(thrown.one_of((2, 5, 100))))
    return row[:width]


class WrittenPagesChanged(Beside):
    def written(self, thrown):
        """The kind, the width and the rows of a page, and its data."""
        kind = thrown.below(3)
        width = thrown.one_of((1, 2, 3, 8, 9, 17, 64, 70, 200))
        rows = []
        for number in range(thrown.below(6)):
            rows.append(row_like(thrown, rows[-1] if rows else "." * width, width))
        written = fax_write(kind, 1 + thrown.below(3), width, len(rows), PLENTY, picture_of(rows, "#"))
        return kind, width, len(rows), written[1:]

    def test_one_bit_turned(self):
        thrown = Thrown(1)
        for page in range(150):
            kind, width, rows, data = self.written(thrown)
            for turn in range(12):
                changed = list(data)
                changed[thrown.below(len(data))] ^= 1 << thrown.below(8)
                self.check(kind, width, rows + thrown.below(3) - 1 if rows else thrown.below(2), changed)

    def test_each_bit_turned_of_some(self):
        thrown = Thrown(2)
        for page in range(12):
            kind, width, rows, data = self.written(thrown)
            for bit in range(8 * len(data)):
                changed = list(data)
                changed[bit // 8] ^= 128 >> (bit % 8)
                self.check(kind, width, rows, changed)

    def test_cut_off(self):
        thrown = Thrown(3)
        for page in range(60):
            kind, width, rows, data = self.written(thrown)
            for length in range(len(data)):
                self.check(kind, width, rows + thrown.below(2), data[:length])

    def test_a_bit_more_or_less(self):
        thrown = Thrown(4)
        for page in range(150):
            kind, width, rows, data = self.written(thrown)
            bits = "".join(format(byte, "08b") for byte in data)
            for turn in range(8):
                place = thrown.below(len(bits))
                self.check(kind, width, rows + thrown.below(2), bytes_of(bits[:place] + bits[place + 1:]))
                self.check(kind, width, rows + thrown.below(2), bytes_of(bits[:place] + "0" + bits[place:]))
                self.check(kind, width, rows + thrown.below(2), bytes_of(bits[:place] + "1" + bits[place:]))

    def test_with_fewer_rows_let(self):
        thrown = Thrown(5)
        for page in range(60):
            kind, width, rows, data = self.written(thrown)
            for most in range(rows + 2):
                self.check(kind, width, most, data)


class CodesThrownTogether(Beside):
    def alone(self, thrown, width):
        """Runs in turns till the row is full, some of 0, some as sums; now and then they go too far."""
        bits = ""
        colour = 0
        left = width
        while left > 0:
            run = 0 if thrown.below(4) == 0 else 1 + thrown.below(min(left, thrown.one_of((2, 9, 4000))))
            if thrown.below(60) == 0:
                run += thrown.below(9)
            left -= run
            while run >= 64:
                sixty_fours = 1 + thrown.below(min(run // 64, 40))
                bits += LONG[colour][sixty_fours - 1]
                run -= 64 * sixty_fours
            bits += SHORT[colour][run]
            colour = 1 - colour
        return bits

    def by_above(self, thrown, width):
        """Ways as they come, of a row that's left to be full or not."""
        bits = ""
        for number in range(1 + thrown.below(min(width, 5) + 1)):
            way = thrown.below(8)
            if way == 0:
                bits += "0001"
            elif way == 1:
                colour = thrown.below(2)
                bits += "001" + SHORT[colour][thrown.below(4)] + SHORT[1 - colour][thrown.below(4)]
            elif way < 4:
                bits += thrown.one_of(list(STRAIGHT))
            else:
                bits += "1"
        return bits

    def page(self, thrown, kind, width):
        bits = ""
        for number in range(1 + thrown.below(4)):
            if kind < 2:
                bits += "0" * thrown.one_of((0, 0, 0, 1, 9)) + EOL
            alone = kind == 0 or (kind == 1 and (number == 0 or thrown.below(3) == 0))
            if kind == 1:
                bits += "1" if alone and thrown.below(20) else "0"
            bits += self.alone(thrown, width) if alone else self.by_above(thrown, width)
        return bits + END_OF_KIND[kind] + thrown.one_of(("", "", "", "1", "0" * 8))

    def test_pages(self):
        thrown = Thrown(6)
        read = {0: 0, 1: 0, 2: 0}
        told = {}
        for page in range(4000):
            kind = thrown.below(3)
            width = thrown.one_of((1, 2, 3, 4, 7, 8, 12, 30, 100))
            most = thrown.one_of((0, 1, 2, 3, 9, MOST_ROWS, MOST_ROWS))
            data = bytes_of(self.page(thrown, kind, width))
            if thrown.below(6) == 0:
                data = data[:thrown.below(len(data))]
            first = self.check(kind, width, most, data)
            if first >= 0:
                read[kind] += 1
            else:
                told[first] = True
        # Pages that are whole and each fault have to come up for this to say anything.
        self.assertGreater(min(read.values()), 50)
        self.assertEqual(sorted(told), [-16, -15, -14, -13, -12, -11])

    def test_rows_by_any_above(self):
        thrown = Thrown(7)
        whole = 0
        for page in range(4000):
            width = 1 + thrown.below(9)
            above = points_of(thrown.below(1 << width), width)
            data = fax_write(2, 1, width, 1, PLENTY, picture_of([above]))[1:]
            bits = "".join(format(byte, "08b") for byte in data)
            bits = bits[:bits.rindex("1") + 1 - 24] + self.by_above(thrown, width) + END_OF_KIND[2]
            whole += self.check(2, width, 4, bytes_of(bits)) > 0
        self.assertGreater(whole, 300)

    def test_rows_alone_of_many_runs(self):
        thrown = Thrown(8)
        for page in range(600):
            width = 1 + thrown.below(6)
            lengths = [thrown.one_of((0, 0, 0, 0, 0, 1)) for number in range(width + 1 + thrown.below(5))]
            codes = "".join(SHORT[number % 2][length] for number, length in enumerate(lengths))
            self.check(0, width, 2, bytes_of(EOL + codes + END_OF_KIND[0]))
            self.check(0, width, 2, bytes_of(EOL + codes + SHORT[len(lengths) % 2][width] + END_OF_KIND[0]))
            self.check(1, width, 2, bytes_of(EOL + "1" + codes + SHORT[len(lengths) % 2][width] + END_OF_KIND[1]))


class AnyBytes(Beside):
    def test_bytes_thrown(self):
        thrown = Thrown(9)
        for number in range(3000):
            # Of few values, so that zeros and ends of line come up.
            values = thrown.one_of(((0, 1, 16, 255), (0, 128), tuple(range(256))))
            data = [thrown.one_of(values) for count in range(thrown.below(14))]
            self.check(thrown.below(3), 1 + thrown.below(9), thrown.one_of((0, 1, 2, 9)), data)

    def test_bits_behind_a_good_beginning(self):
        thrown = Thrown(10)
        for number in range(2000):
            kind = thrown.below(3)
            bits = plain((EOL + "0111 11 1011", EOL + "1 0111 11 1011", "001 0111 11 1")[kind])
            bits += EOL * (kind < 2) * thrown.below(2)
            bits += "".join(thrown.one_of("0000001") for count in range(thrown.below(60)))
            self.check(kind, 8, 9, bytes_of(bits))


if __name__ == "__main__":
    unittest.main()
