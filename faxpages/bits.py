"""The bits of data that is read, from the first on."""

from faxpages.codes import END_OF_LINE, LONGEST_CODE
from faxpages.faults import NoCode, NoEndOfLine, DataEnds

FOUR_BITS = (
    "0000", "0001", "0010", "0011", "0100", "0101", "0110", "0111",
    "1000", "1001", "1010", "1011", "1100", "1101", "1110", "1111",
)


def bit_text(data):
    """The bits of bytes as a text of 0 and 1, the highest bit of each byte first."""
    return "".join([FOUR_BITS[byte >> 4] + FOUR_BITS[byte & 15] for byte in data])


# Bits as a text, and the place of the one that is read next.
class Bits:
    def __init__(self, data):
        self.text = bit_text(data)
        self.place = 0

    def begins_with(self, code):
        return self.text.startswith(code, self.place)

    def next_bit(self):
        if self.place == len(self.text):
            raise DataEnds(self.place)
        self.place += 1
        return self.text[self.place - 1]

    def next_code(self, codes):
        """The one of these codes that stands here; the place is behind it then."""
        for length in range(1, LONGEST_CODE + 1):
            code = self.text[self.place:self.place + length]
            if code in codes:
                self.place += length
                return code
        rest = self.text[self.place:self.place + LONGEST_CODE]
        # Were the rest as long as the longest code, no code could begin with it: the data end here.
        if any([code.startswith(rest) for code in codes]):
            raise DataEnds(self.place)
        raise NoCode(self.place)

    def next_end_of_line(self):
        """Goes behind an end of line that has to stand right here."""
        if self.begins_with(END_OF_LINE):
            self.place += len(END_OF_LINE)
        elif END_OF_LINE.startswith(self.text[self.place:self.place + len(END_OF_LINE)]):
            raise DataEnds(self.place)
        else:
            raise NoEndOfLine(self.place)

    def end_of_line_behind_zeros(self):
        """Goes behind an end of line, before which any zeros may stand."""
        one = self.text.find("1", self.place)
        if one < 0:
            raise DataEnds(self.place)
        if one + 1 - self.place < len(END_OF_LINE):
            raise NoEndOfLine(self.place)
        self.place = one + 1

    def only_fill_is_left(self):
        """Whether nothing is left but zeros to the byte's end."""
        return len(self.text) - self.place < 8 and self.text.find("1", self.place) < 0
