"""Bytes read strictly from the beginning, and the refusal that names the first wrong one."""

MOST_NUMBER_BITS = 70


class WrongByte(ValueError):
    def __init__(self, place):
        ValueError.__init__(self, place)
        self.place = place


class Cursor:
    def __init__(self, data):
        self.data = data
        self.place = 0

    def read_byte(self, least, greatest):
        if self.place >= len(self.data):
            raise WrongByte(len(self.data))
        value = self.data[self.place]
        if value < least or value > greatest:
            raise WrongByte(self.place)
        self.place += 1
        return value

    def read_number(self, least, greatest):
        first = self.place
        value = unfold(self.read_sevens())
        if value < least or value > greatest:
            raise WrongByte(first)
        return value

    def read_sevens(self):
        first = self.place
        total = 0
        shift = 0
        seven = self.read_byte(0, 255)
        while seven >= 128:
            total += (seven - 128) << shift
            shift += 7
            # Ten bytes that all go on are wrong even where the bytes end right behind them.
            if shift == MOST_NUMBER_BITS:
                raise WrongByte(first)
            seven = self.read_byte(0, 255)
        if seven == 0 and shift > 0:
            raise WrongByte(first)
        return total + (seven << shift)

    def read_end(self):
        if self.place < len(self.data):
            raise WrongByte(self.place)


def unfold(folded):
    if folded % 2 == 0:
        return folded // 2
    return -(folded + 1) // 2
