"""Rows of bytes with numbers in four bytes, the lowest first. Reading them tells the first fault."""

ENDS_EARLY = 1
WRONG_HEAD = 2
WRONG_NUMBER = 3
LEFT_OVER = 4


class Fault(Exception):
    def __init__(self, kind, place):
        self.kind = kind
        self.place = place


class Reader:
    def __init__(self, row):
        self.row = row
        self.at = 0

    # Byte by byte: a wrong byte is met ahead of an end that lies behind it.
    def read_head(self, head):
        for value in head:
            if self.read_row(1) != [value]:
                raise Fault(WRONG_HEAD, self.at - 1)

    def read_row(self, size):
        if self.at + size > len(self.row):
            raise Fault(ENDS_EARLY, len(self.row))
        self.at += size
        return self.row[self.at - size:self.at]

    def read_four(self):
        number = 0
        for value in reversed(self.read_row(4)):
            number = number * 256 + value
        return number

    def read_end(self):
        if self.at < len(self.row):
            raise Fault(LEFT_OVER, self.at)


def four_bytes(number):
    return [(number >> shift) & 255 for shift in (0, 8, 16, 24)]
