"""Pages of facsimile, written."""

from faxpages.codes import END_OF_LINE
from faxpages.rowcodes import white_row, row_changes, codes_alone, codes_by_above

ALONE = 0
MIXED = 1
BY_ABOVE = 2

MOST_WIDTH = 16384
MOST_ROWS = 16384


def fax_write(kind, k, width, rows, most, picture):
    """How many bytes a picture is written in, then these; or a refusal, -1 or -2."""
    if kind > BY_ABOVE or k == 0 or width == 0 or width > MOST_WIDTH or rows > MOST_ROWS:
        return [-1]
    data = packed(page_codes(kind, k, width, rows, picture))
    if len(data) > most:
        return [-2]
    return [len(data)] + data


def page_codes(kind, k, width, rows, picture):
    codes = []
    row_bytes = (width + 7) // 8
    above = white_row(width)
    for row in range(rows):
        here = row_changes(picture, row * row_bytes, width)
        alone = kind == ALONE or (kind == MIXED and row % k == 0)
        codes.append(row_opening(kind, alone))
        if alone:
            codes.extend(codes_alone(here, width))
        else:
            codes.extend(codes_by_above(above, here, width))
        above = here
    codes.append(page_end(kind))
    return codes


def row_opening(kind, alone):
    """What stands before a row."""
    if kind == BY_ABOVE:
        return ""
    if kind == ALONE:
        return END_OF_LINE
    return END_OF_LINE + ("1" if alone else "0")


def page_end(kind):
    if kind == BY_ABOVE:
        return END_OF_LINE * 2
    return row_opening(kind, True) * 6


def packed(codes):
    """The bytes of codes, the highest bit first, zeros behind the last code."""
    data = []
    value = 0
    held = 0
    for code in codes:
        for bit in code:
            value = value * 2 + (1 if bit == "1" else 0)
            held += 1
            if held == 8:
                data.append(value)
                value = 0
                held = 0
    if held > 0:
        data.append(value << (8 - held))
    return data
