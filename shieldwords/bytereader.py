"""Bytes gone through from the first, each of which must be one that can stand there."""

from shieldwords.arms import TINCTURE_ROWS


# The place is that of the first byte that can't stand there, or how many there are if more are wanted.
class WrongByte(ValueError):
    def __init__(self, place):
        ValueError.__init__(self, place)
        self.place = place


class ByteReader:
    def __init__(self, data):
        self.data = data
        self.place = 0

    def take(self, least, most):
        if self.place == len(self.data):
            raise WrongByte(self.place)
        byte = self.data[self.place]
        if byte < least or byte > most:
            raise WrongByte(self.place)
        self.place = self.place + 1
        return byte

    def take_row(self, rows):
        return self.take(0, rows - 1)

    # Where there is no tincture to differ from, that one is None.
    def take_other_tincture(self, first):
        tincture = self.take_row(TINCTURE_ROWS)
        if tincture == first:
            raise WrongByte(self.place - 1)
        return tincture

    def take_end(self):
        if self.place < len(self.data):
            raise WrongByte(self.place)
