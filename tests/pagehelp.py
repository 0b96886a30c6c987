"""What the tests share: the document's codes, pictures drawn as texts, and its words taken point by point."""

import re

# The document's codes, set down here once more so that a slip in the program's own list is seen.
WHITE_TO_63 = """
00110101 000111 0111 1000 1011 1100 1110 1111 10011 10100 00111 01000 001000 000011 110100 110101
101010 101011 0100111 0001100 0001000 0010111 0000011 0000100 0101000 0101011 0010011 0100100
0011000 00000010 00000011 00011010 00011011 00010010 00010011 00010100 00010101 00010110 00010111
00101000 00101001 00101010 00101011 00101100 00101101 00000100 00000101 00001010 00001011 01010010
01010011 01010100 01010101 00100100 00100101 01011000 01011001 01011010 01011011 01001010 01001011
00110010 00110011 00110100
""".split()

WHITE_BY_64 = """
11011 10010 010111 0110111 00110110 00110111 01100100 01100101 01101000 01100111 011001100 011001101
011010010 011010011 011010100 011010101 011010110 011010111 011011000 011011001 011011010 011011011
010011000 010011001 010011010 011000 010011011
""".split()

BLACK_TO_63 = """
0000110111 010 11 10 011 0011 0010 00011 000101 000100 0000100 0000101 0000111 00000100 00000111
000011000 0000010111 0000011000 0000001000 00001100111 00001101000 00001101100 00000110111
00000101000 00000010111 00000011000 000011001010 000011001011 000011001100 000011001101 000001101000
000001101001 000001101010 000001101011 000011010010 000011010011 000011010100 000011010101
000011010110 000011010111 000001101100 000001101101 000011011010 000011011011 000001010100
000001010101 000001010110 000001010111 000001100100 000001100101 000001010010 000001010011
000000100100 000000110111 000000111000 000000100111 000000101000 000001011000 000001011001
000000101011 000000101100 000001011010 000001100110 000001100111
""".split()

BLACK_BY_64 = """
0000001111 000011001000 000011001001 000001011011 000000110011 000000110100 000000110101
0000001101100 0000001101101 0000001001010 0000001001011 0000001001100 0000001001101 0000001110010
0000001110011 0000001110100 0000001110101 0000001110110 0000001110111 0000001010010 0000001010011
0000001010100 0000001010101 0000001011010 0000001011011 0000001100100 0000001100101
""".split()

BOTH_FROM_1792 = """
00000001000 00000001100 00000001101 000000010010 000000010011 000000010100 000000010101 000000010110
000000010111 000000011100 000000011101 000000011110 000000011111
""".split()

SHORT = (WHITE_TO_63, BLACK_TO_63)
LONG = (WHITE_BY_64 + BOTH_FROM_1792, BLACK_BY_64 + BOTH_FROM_1792)

EOL = "000000000001"
END_OF_KIND = (EOL * 6, (EOL + "1") * 6, EOL * 2)

PLENTY = 4294967295
MOST_ROWS = 16384

STRAIGHT = {"1": 0, "011": 1, "000011": 2, "0000011": 3, "010": -1, "000010": -2, "0000010": -3}
WAYS = ["0001", "001"] + list(STRAIGHT)


def plain(bits):
    """A text of 0 and 1 without the blanks that only make it easier to read."""
    return "".join(bits.split())


def bytes_of(bits):
    bits = plain(bits)
    bits += "0" * (-len(bits) % 8)
    return [int(bits[i:i + 8], 2) for i in range(0, len(bits), 8)]


def answer_of(bits):
    data = bytes_of(bits)
    return [len(data)] + data


def picture_of(rows, behind="."):
    """The picture of rows drawn with . and #; behind is what stands behind each row's end."""
    picture = []
    for row in rows:
        full = row + behind * (-len(row) % 8)
        picture += bytes_of(full.replace(".", "0").replace("#", "1"))
    return picture


def points_of(value, width):
    """The row whose points are a number's bits."""
    return format(value, "0%db" % width).replace("0", ".").replace("1", "#")


def run_bits(colour, length):
    bits = ""
    while length >= 2560:
        bits += LONG[colour][39]
        length -= 2560
    if length >= 64:
        bits += LONG[colour][length // 64 - 1]
    return bits + SHORT[colour][length % 64]


def point(row, place):
    return 0 if place < 0 else int(row[place] == "#")


def alone_bits(row):
    bits = ""
    place = 0
    colour = 0
    while place < len(row):
        end = place
        while end < len(row) and point(row, end) == colour:
            end += 1
        bits += run_bits(colour, end - place)
        place = end
        colour = 1 - colour
    return bits


def change_behind(row, place, to_colours):
    """The first place behind one where a row's colour changes to one of these, or the width."""
    for p in range(place + 1, len(row)):
        if point(row, p) != point(row, p - 1) and point(row, p) in to_colours:
            return p
    return len(row)


def by_above_bits(above, row):
    bits = ""
    a = -1
    colour = 0
    straight = {shift: code for code, shift in STRAIGHT.items()}
    while a < len(row):
        b1 = change_behind(above, a, [1 - colour])
        b2 = change_behind(above, b1, [0, 1])
        a1 = next((p for p in range(a + 1, len(row)) if point(row, p) != colour), len(row))
        a2 = change_behind(row, a1, [0, 1])
        if b2 < a1:
            bits += "0001"
            a = b2
        elif a1 - b1 in straight:
            bits += straight[a1 - b1]
            a = a1
            colour = 1 - colour
        else:
            bits += "001" + run_bits(colour, a1 - max(a, 0)) + run_bits(1 - colour, a2 - a1)
            a = a2
    return bits


def page_bits(kind, k, width, rows):
    """A page's bits as the document's words tell them, point by point and without any haste."""
    bits = ""
    above = "." * width
    for number, row in enumerate(rows):
        if kind == 0:
            bits += EOL + alone_bits(row)
        elif kind == 2:
            bits += by_above_bits(above, row)
        elif number % k == 0:
            bits += EOL + "1" + alone_bits(row)
        else:
            bits += EOL + "0" + by_above_bits(above, row)
        above = row
    return bits + END_OF_KIND[kind]


def answer_of_rows(rows):
    """What reading answers of a page of these rows."""
    return [len(rows)] + picture_of(rows)


def to_byte_s_end(kind, bits):
    """A page's bits with as many ahead that they end where a byte does, for data that is to end there.

    More zeros before a first end of line are let, and so are more white rows of kind 2.
    """
    bits = plain(bits)
    return "001"[kind] * (-len(bits) % 8) + bits


def ahead_of_alone(kind, width):
    """What may stand ahead of a row alone: of the first one and of later ones, as many texts."""
    if kind == 0:
        white = EOL + run_bits(0, width)
        return [EOL, white + EOL, white + white + "000" + EOL]
    white = EOL + "1" + run_bits(0, width)
    return [EOL + "1", white + EOL + "1", white + EOL + "0 1" + EOL + "1"]


def ahead_of_by_above(above):
    """What may stand ahead of a row by the one above, which is drawn: (kind, text) each."""
    white = "." * len(above)
    return [
        (1, EOL + "1" + alone_bits(above) + EOL + "0"),
        (1, EOL + "1" + alone_bits(white) + EOL + "0" + by_above_bits(white, above) + EOL + "0"),
        (2, by_above_bits(white, above)),
        (2, "1" + by_above_bits(white, above)),
    ]


class Told(Exception):
    """A fault and its place."""


def code_at(bits, place, codes):
    for code in codes:
        if bits.startswith(code, place):
            return code
    rest = bits[place:]
    raise Told(-14 if any(code.startswith(rest) for code in codes) else -11, place)


def read_run(bits, place, colour, room):
    length = 0
    while True:
        code = code_at(bits, place, SHORT[colour] + LONG[colour])
        last = code in SHORT[colour]
        length += SHORT[colour].index(code) if last else 64 * (LONG[colour].index(code) + 1)
        if length > room:
            raise Told(-12, place)
        place += len(code)
        if last:
            return length, place


def read_alone(bits, place, width):
    row = ""
    runs = 0
    while len(row) < width or runs > width + 3:
        if runs > width + 3:
            raise Told(-12, place)
        length, place = read_run(bits, place, runs % 2, width - len(row))
        row += ".#"[runs % 2] * length
        runs += 1
    return row, place


def read_by_above(bits, place, above):
    width = len(above)
    row = ""
    a = -1
    colour = 0
    while a < width:
        way = code_at(bits, place, WAYS)
        b1 = change_behind(above, a, [1 - colour])
        b2 = change_behind(above, b1, [0, 1])
        behind = place + len(way)
        if way == "0001":
            to, let = b2, b2 < width
        elif way == "001":
            first, behind = read_run(bits, behind, colour, width - len(row))
            second, behind = read_run(bits, behind, 1 - colour, width - len(row) - first)
            let = first + second > 0
            row += ".#"[colour] * first + ".#"[1 - colour] * second
            to = len(row)
        else:
            to = b1 + STRAIGHT[way]
            let = a < to <= width
        if not let:
            raise Told(-12, place)
        a = to
        row += ".#"[colour] * (a - len(row))
        place = behind
        if way in STRAIGHT:
            colour = 1 - colour
    return row, place


def end_of_line(bits, place, zeros):
    """The place behind an end of line, ahead of which so many zeros more are let."""
    if "1" not in bits[place:] and len(bits) - place <= 11 + zeros:
        raise Told(-14, place)
    line = re.compile("0{11,%d}1" % (11 + zeros)).match(bits, place)
    if line is None:
        raise Told(-13, place)
    return line.end()


def row_s_tag(kind, bits, place):
    if kind == 0:
        return "1", place
    if place == len(bits):
        raise Told(-14, place)
    return bits[place], place + 1


def read_lines(kind, width, most, bits):
    rows = []
    place = end_of_line(bits, 0, len(bits))
    tag, place = row_s_tag(kind, bits, place)
    while not bits.startswith(EOL, place):
        if len(rows) == most:
            raise Told(-16, place)
        if tag == "0" and not rows:
            raise Told(-13, place - 1)
        row, place = read_alone(bits, place, width) if tag == "1" else read_by_above(bits, place, rows[-1])
        rows.append(row)
        place = end_of_line(bits, place, len(bits))
        tag, place = row_s_tag(kind, bits, place)
    lines = 1
    while tag == "1" and lines < 6:
        place = end_of_line(bits, place, 0)
        tag, place = row_s_tag(kind, bits, place)
        lines += 1
    if tag == "0":
        raise Told(-13, place - 1)
    return rows, place


def read_one_by_the_other(width, most, bits):
    rows = []
    place = 0
    while not bits.startswith(EOL + EOL, place):
        if len(rows) == most:
            raise Told(-16, place)
        row, place = read_by_above(bits, place, rows[-1] if rows else "." * width)
        rows.append(row)
    return rows, place + 24


def reading_of(kind, width, most, data):
    """What the document's words answer of data, point by point and without any haste."""
    bits = "".join(format(byte, "08b") for byte in data)
    try:
        if kind == 2:
            rows, place = read_one_by_the_other(width, most, bits)
        else:
            rows, place = read_lines(kind, width, most, bits)
        if len(bits) - place > 7 or "1" in bits[place:]:
            raise Told(-15, place)
    except Told as told:
        return list(told.args)
    return answer_of_rows(rows)
