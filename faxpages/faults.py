"""What can be wrong with data that is read: a number for each fault, and the bit it is told at."""


class Fault(Exception):
    def __init__(self, number, place):
        self.number = number
        self.place = place


# Bits that are no code, nor the beginning of one.
class NoCode(Fault):
    def __init__(self, place):
        Fault.__init__(self, -11, place)


# A run beyond the row's end, a way that can't stand here, more runs than a row may have.
class NotLet(Fault):
    def __init__(self, place):
        Fault.__init__(self, -12, place)


# Something else where an end of line has to be, or the 1 behind it.
class NoEndOfLine(Fault):
    def __init__(self, place):
        Fault.__init__(self, -13, place)


# The data end within what has to be there.
class DataEnds(Fault):
    def __init__(self, place):
        Fault.__init__(self, -14, place)


# More than zeros to the byte's end behind the page.
class MoreBehind(Fault):
    def __init__(self, place):
        Fault.__init__(self, -15, place)


# Another row after as many as may be.
class RowTooMany(Fault):
    def __init__(self, place):
        Fault.__init__(self, -16, place)
