"""Bytes that are read from the front, and the faults they may have."""

from goingon.whole import outside


class Fault(Exception):
    def __init__(self, place, kind):
        Exception.__init__(self)
        self.place = place
        self.kind = kind


class Reader:
    def __init__(self, data):
        self.data = data
        self.at = 0

    def unsigned(self, size):
        end = self.at + size
        if end > len(self.data):
            raise Fault(len(self.data), 1)
        number = 0
        for digit in reversed(self.data[self.at:end]):
            number = number * 256 + digit
        self.at = end
        return number

    def signed(self, size):
        number = self.unsigned(size)
        bits = 8 * size
        return number - (1 << bits) if number >> (bits - 1) else number

    def unsigned_within(self, size, low, high):
        start = self.at
        return within(self.unsigned(size), low, high, start)

    def signed_within(self, size, low, high):
        start = self.at
        return within(self.signed(size), low, high, start)

    def nothing_follows(self):
        if self.at < len(self.data):
            raise Fault(self.at, 5)


def within(number, low, high, start):
    if outside(number, low, high):
        raise Fault(start, 2)
    return number
