"""What can be wrong with data that is read: a number for each fault, and the bit it is told at."""


class Fault(Exception):
    def __init__(self, number, place):
        self.number = number
        self.place = place


class NoCode(Fault):
    """Bits that are no code, nor the beginning of one."""

    def __init__(self, place):
        Fault.__init__(self, -11, place)


class NotLet(Fault):
    """A run beyond the row's end, a way that can't stand here, more runs than a row may have."""

    def __init__(self, place):
        Fault.__init__(self, -12, place)


class NoEndOfLine(Fault):
    """Something else where an end of line has to be, or the 1 behind it."""

    def __init__(self, place):
        Fault.__init__(self, -13, place)


class DataEnds(Fault):
    """The data end within what has to be there."""

    def __init__(self, place):
        Fault.__init__(self, -14, place)


class MoreBehind(Fault):
    """More than zeros to the byte's end behind the page."""

    def __init__(self, place):
        Fault.__init__(self, -15, place)


class RowTooMany(Fault):
    """Another row after as many as may be."""

    def __init__(self, place):
        Fault.__init__(self, -16, place)
