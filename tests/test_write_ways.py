"""Each way of a row by the one above, worked out by hand."""

import unittest

from faxpages.pages import fax_write
from pagehelp import EOL, PLENTY, answer_of, picture_of

# Black from 8 to 12: across from the white row above, then straight down at the end.
BLOCK = "........####...."
BLOCK_BITS = "001 10011 011  1"


class Page(unittest.TestCase):
    def check(self, rows, *row_bits):
        got = fax_write(2, 1, len(rows[0]), len(rows), PLENTY, picture_of(rows))
        self.assertEqual(got, answer_of("".join(row_bits) + EOL * 2))


class Straight(Page):
    def test_white_to_black(self):
        for start, way in [
            (5, "0000010"), (6, "000010"), (7, "010"), (8, "1"), (9, "011"), (10, "000011"), (11, "0000011"),
        ]:
            with self.subTest(start=start):
                here = "." * start + "#" * (12 - start) + "...."
                self.check([BLOCK, here], BLOCK_BITS, way + "1 1")

    def test_black_to_white(self):
        for end, way in [
            (9, "0000010"), (10, "000010"), (11, "010"), (12, "1"), (13, "011"), (14, "000011"), (15, "0000011"),
        ]:
            with self.subTest(end=end):
                here = "........" + "#" * (end - 8) + "." * (16 - end)
                self.check([BLOCK, here], BLOCK_BITS, "1" + way + "1")

    def test_to_the_row_s_end(self):
        # b2 and a1 both are the width: nothing is passed over.
        for start, first, second in [(15, "010 1", "011"), (14, "000010 1", "000011"), (13, "0000010 1", "0000011")]:
            with self.subTest(start=start):
                self.check(["." * start + "#" * (16 - start), "." * 16], first, second)

    def test_back_to_a_change_left_of_one_used_before(self):
        # Behind 4 the change at 5 is b1 again, though the one at 7 has been it in between.
        self.check([".....##.........", "...#............"], "001 1100 11  1", "000010 0000010 0001 1")


class PassedOver(Page):
    def test_once(self):
        self.check([BLOCK, "." * 16], BLOCK_BITS, "0001 1")

    def test_twice(self):
        self.check(["..##..##........", "." * 16], "001 0111 11  001 0111 11  1", "0001 0001 1")

    def test_where_straight_would_reach(self):
        self.check(["...#............", ".....###########"], "001 1000 010  1", "0001  001 000111 0000101")

    def test_in_black(self):
        self.check(["###..#####", "##########"], "001 00110101 10  001 0111 0011", "1 0001 1")

    def test_below_a_row_that_begins_black(self):
        self.check(["####....", "......##"], "001 00110101 011  1", "0001 000010 1")

    def test_not_where_b2_is_a1(self):
        self.check([BLOCK, "............##.."], BLOCK_BITS, "001 001000 11  1")


class Across(Page):
    def test_four_to_the_left(self):
        self.check([BLOCK, "....########...."], BLOCK_BITS, "001 1011 000101  1")

    def test_from_black(self):
        rows = ["........####........", "........########.###"]
        self.check(rows, BLOCK_BITS, "1  001 000101 000111  1")

    def test_from_black_four_to_the_left(self):
        rows = ["........########........", "........####............"]
        self.check(rows, "001 10011 000101  1", "1  001 011 001000")

    def test_straight_again_behind_it(self):
        rows = ["..##......##....", "......##..##...."]
        self.check(rows, "001 0111 11  001 1110 11  1", "0001  001 0111 11  1 1 1")

    def test_no_black_at_the_end(self):
        self.check(["..########", ".........."], "001 0111 000101", "001 00111 0000110111")

    def test_no_white_at_the_end(self):
        self.check([BLOCK, "........########"], BLOCK_BITS, "1  001 000101 00110101")


class BeginsBlack(Page):
    def test_first_row_across(self):
        self.check(["#####..."], "001 00110101 0011  1")

    def test_first_row_straight(self):
        self.check(["###"], "0000010 1")
        self.check(["##."], "0000010 010 1")

    def test_below_a_row_that_begins_black(self):
        self.check(["##......", "####...."], "001 00110101 11  1", "1 000011 1")

    def test_to_the_left_of_the_one_above(self):
        self.check(["..##....", "####...."], "001 0111 11  1", "000010 1 1")

    def test_b1_is_behind_a_not_at_it(self):
        self.check(["#.......", "########"], "001 00110101 010  1", "1  001 000101 00110101")


if __name__ == "__main__":
    unittest.main()
