"""Pages of facsimile, written and read."""

from faxpages.bits import Bits
from faxpages.codes import END_OF_LINE
from faxpages.faults import Fault, MoreBehind, NoEndOfLine, RowTooMany
from faxpages.rowcodes import white_row, row_changes, bytes_of_row, codes_alone, codes_by_above
from faxpages.rowreading import RowReader

ALONE = 0
MIXED = 1
BY_ABOVE = 2

MOST_WIDTH = 16384
MOST_ROWS = 16384
MOST_LENGTH = 67108864


def fax_write(kind, k, width, rows, most, picture):
    """How many bytes a picture is written in, then these; or a refusal, -1 or -2."""
    if kind > BY_ABOVE or k == 0 or width == 0 or width > MOST_WIDTH or rows > MOST_ROWS:
        return [-1]
    data = packed(page_codes(kind, k, width, rows, picture))
    if len(data) > most:
        return [-2]
    return [len(data)] + data


def fax_read(kind, width, most, data):
    """How many rows data holds, then the picture; or a refusal, -1 or a fault and its place."""
    if kind > BY_ABOVE or width == 0 or width > MOST_WIDTH or most > MOST_ROWS or len(data) > MOST_LENGTH:
        return [-1]
    try:
        page = read_page(kind, width, most, Bits(data))
    except Fault as fault:
        return [fault.number, fault.place]
    answer = [len(page)]
    for row in page:
        answer.extend(bytes_of_row(row, width))
    return answer


def page_codes(kind, k, width, rows, picture):
    codes = []
    row_bytes = (width + 7) // 8
    above = white_row(width)
    for row in range(rows):
        here = row_changes(picture, row * row_bytes, width)
        alone = kind == ALONE or (kind == MIXED and row % k == 0)
        codes.append(row_opening(kind, alone))
        if alone:
            codes.extend(codes_alone(here, width))
        else:
            codes.extend(codes_by_above(above, here, width))
        above = here
    codes.append(page_end(kind))
    return codes


def row_opening(kind, alone):
    """What stands before a row."""
    if kind == BY_ABOVE:
        return ""
    if kind == ALONE:
        return END_OF_LINE
    return END_OF_LINE + ("1" if alone else "0")


def page_end(kind):
    if kind == BY_ABOVE:
        return END_OF_LINE * 2
    return row_opening(kind, True) * 6


def packed(codes):
    """The bytes of codes, the highest bit first, zeros behind the last code."""
    data = []
    value = 0
    held = 0
    for code in codes:
        for bit in code:
            value = value * 2 + (1 if bit == "1" else 0)
            held += 1
            if held == 8:
                data.append(value)
                value = 0
                held = 0
    if held > 0:
        data.append(value << (8 - held))
    return data


def read_page(kind, width, most, bits):
    """The rows of the page that bits hold, each as its changes: bytes for all of them may be many, and a
    fault may stand behind the last."""
    reader = RowReader(bits, width)
    if kind == BY_ABOVE:
        page = read_rows_by_above(reader, width, most, bits)
    else:
        page = read_rows_in_lines(kind, reader, most, bits)
    if not bits.only_fill_is_left():
        raise MoreBehind(bits.place)
    return page


def read_rows_by_above(reader, width, most, bits):
    page = []
    above = white_row(width)
    while not bits.begins_with(page_end(BY_ABOVE)):
        if len(page) == most:
            raise RowTooMany(bits.place)
        above = reader.row_by_above(above)
        page.append(above)
    bits.next_end_of_line()
    bits.next_end_of_line()
    return page


def read_rows_in_lines(kind, reader, most, bits):
    page = []
    while True:
        bits.end_of_line_behind_zeros()
        bit_place = bits.place
        alone = kind == ALONE or bits.next_bit() == "1"
        at_end = bits.begins_with(END_OF_LINE)
        if len(page) == most and not at_end:
            raise RowTooMany(bits.place)
        # Neither the page's end nor a first row is by the one above.
        if not alone and (at_end or len(page) == 0):
            raise NoEndOfLine(bit_place)
        if at_end:
            read_rest_of_end(kind, bits)
            return page
        page.append(reader.row_alone() if alone else reader.row_by_above(page[-1]))


def read_rest_of_end(kind, bits):
    """The five ends of line behind the page's end's first."""
    for line in range(5):
        bits.next_end_of_line()
        bit_place = bits.place
        if kind == MIXED and bits.next_bit() == "0":
            raise NoEndOfLine(bit_place)
