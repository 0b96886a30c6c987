"""How a row is read: alone, or by the one above. It is given back as its changes, as rowcodes tells."""

from faxpages.codes import WHITE, BLACK, PASSED_OVER, ACROSS, run_lengths, way_shifts
from faxpages.faults import NotLet
from faxpages.rowcodes import with_ends, first_behind, opposite_from


class RowReader:
    def __init__(self, bits, width):
        self.bits = bits
        self.width = width
        self.lengths = [run_lengths(WHITE), run_lengths(BLACK)]
        self.shifts = way_shifts()

    def run_end(self, colour, start):
        """The place where a run ends that begins at start."""
        place = start
        while True:
            begin = self.bits.place
            length = self.lengths[colour][self.bits.next_code(self.lengths[colour])]
            place += length
            if place > self.width:
                raise NotLet(begin)
            if length < 64:
                return place

    def turn(self, changes, place):
        """The colour turns at a place. The row above only counts where its points differ, so no change is
        left where it turns twice, nor at the row's end."""
        if len(changes) > 0 and changes[-1] == place:
            changes.pop()
        elif place < self.width:
            changes.append(place)

    def row_alone(self):
        changes = []
        place = 0
        most_runs = self.width + 3
        for run in range(most_runs):
            place = self.run_end(run % 2, place)
            if place == self.width:
                return with_ends(changes, self.width)
            self.turn(changes, place)
        # What is wrong within the run that's one too many is told ahead of there being so many.
        self.run_end(most_runs % 2, place)
        raise NotLet(self.bits.place)

    def row_by_above(self, above):
        """The row below one; place is where the document's a stands."""
        changes = []
        place = -1
        colour = WHITE
        index_above = 0
        while place < self.width:
            index_above = first_behind(above, index_above, place)
            opposite = opposite_from(index_above, colour)
            begin = self.bits.place
            way = self.bits.next_code(self.shifts)
            if way == PASSED_OVER:
                place = self.passed_over(begin, above[opposite + 1])
            elif way == ACROSS:
                place = self.across(begin, changes, colour, max(place, 0))
            else:
                place = self.straight(begin, place, above[opposite] + self.shifts[way])
                self.turn(changes, place)
                colour = 1 - colour
        return with_ends(changes, self.width)

    def passed_over(self, begin, b2):
        if b2 == self.width:
            raise NotLet(begin)
        return b2

    def across(self, begin, changes, colour, start):
        middle = self.run_end(colour, start)
        end = self.run_end(1 - colour, middle)
        if end == start:
            raise NotLet(begin)
        self.turn(changes, middle)
        self.turn(changes, end)
        return end

    def straight(self, begin, place, change):
        if change <= place or change > self.width:
            raise NotLet(begin)
        return change
