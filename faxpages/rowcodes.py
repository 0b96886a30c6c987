"""How a row is coded: alone, or by the one above.

A row is held as its changes: the places, from left to right, where the colour is another one than at
the place before, white before the row. The changes at even indexes lead to black, those at odd ones
to white. Behind them the width stands, as the place of every change that there isn't.
"""

from faxpages.codes import WHITE, PASSED_OVER, ACROSS, STRAIGHT_REACH, run_code, straight_code


def with_ends(changes, width):
    # Three, for behind the last change may lie one of the wrong colour, the one sought, and the next one.
    return changes + [width, width, width]


def white_row(width):
    return with_ends([], width)


def row_changes(picture, start, width):
    """The changes of the row whose bytes begin at start; bits behind its width are never looked at."""
    changes = []
    colour = WHITE
    for place in range(width):
        point = (picture[start + place // 8] >> (7 - place % 8)) & 1
        if point != colour:
            changes.append(place)
            colour = point
    return with_ends(changes, width)


def bytes_of_row(changes, width):
    """The bytes of a row, 0 in the bits behind its width."""
    row = []
    # The byte that the row stands in, and each byte behind it, as they are if no more changes come.
    value = 0
    behind = 0
    for place in changes:
        if place == width:
            break
        if place // 8 > len(row):
            row.append(value)
            row.extend([behind] * (place // 8 - len(row)))
            value = behind
        value ^= 255 >> (place % 8)
        behind ^= 255
    row.append(value)
    row.extend([behind] * ((width + 7) // 8 - len(row)))
    row[-1] &= 255 << (-width % 8)
    return row


def codes_alone(here, width):
    """The codes of a row alone: its runs in turns, white first."""
    codes = []
    place = 0
    index = 0
    while place < width:
        codes.append(run_code(index % 2, here[index] - place))
        place = here[index]
        index += 1
    return codes


def first_behind(changes, index, place):
    """The index, from the given one on, of the first change behind a place."""
    while changes[index] <= place:
        index += 1
    return index


def opposite_from(index, colour):
    """The index, from the given one on, of the first change to the other colour than the given one."""
    return index + (index + colour) % 2


def across_code(colour, place, change, change_after):
    # Before the row (-1) the run is counted from the row's first point.
    first_run = change - max(place, 0)
    return ACROSS + run_code(colour, first_run) + run_code(1 - colour, change_after - change)


def codes_by_above(above, here, width):
    """The codes of a row by the one above; place is where the document's a stands."""
    codes = []
    place = -1
    index = 0
    index_above = 0
    while place < width:
        # Each change that is coded turns the colour, which is white at first.
        colour = index % 2
        index_above = first_behind(above, index_above, place)
        opposite = opposite_from(index_above, colour)
        b1 = above[opposite]
        b2 = above[opposite + 1]
        a1 = here[index]
        if b2 < a1:
            codes.append(PASSED_OVER)
            place = b2
        elif abs(a1 - b1) <= STRAIGHT_REACH:
            codes.append(straight_code(a1 - b1))
            place = a1
            index += 1
        else:
            codes.append(across_code(colour, place, a1, here[index + 1]))
            place = here[index + 1]
            index += 2
    return codes
