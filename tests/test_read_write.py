"""read and write: books to the byte, and the first wrong byte of all that is none."""

import unittest

from tests.helper import (
    HEAD, OK, REFUSED, SYMBOLS, WRITE, book, contour, group, last, nested, read, run, shape, step, use, wrong,
)

PATH = (
    contour(
        -300, 70000, step(2, 5, -6), step(3, -700), step(4, 80000), step(5, 1, 2, -3, 0), step(6, 9, 0, 0, 8, 7, -7),
    )
    + contour(4194303, -4194304, step(5, 0, 0, 0, 0))
    + [0]
)
BOOK = book(
    [shape(1, 3, (255, 0, 128, 7), PATH), group(shape(), group(odd=1), odd=1, path=PATH), shape(0, 2)],
    [],
    [use(0), use(1, -1, 2, -2 ** 63, 2 ** 63 - 1, -2 ** 31, 2 ** 31 - 1), group(use(0), use(1))],
)


class TestToTheByte(unittest.TestCase):
    def check_book(self, data):
        self.assertEqual(run(read(data), WRITE), [OK, (0, [], data)])

    def test_books(self):
        self.check_book(book())
        self.check_book(book([]))
        self.check_book(book(*[[]] * 255))
        self.check_book(BOOK)

    def test_the_book_at_first(self):
        self.assertEqual(run(SYMBOLS, WRITE), [OK, (0, [], HEAD + [0])])

    def test_each_kind_of_step(self):
        for steps in (
            [step(2, 1, 1)], [step(2, -4194304, 4194303)], [step(3, 1)], [step(3, -1)], [step(4, 1)], [step(4, -1)],
            [step(5, 0, 0, 0, 0)], [step(5, 1, 0, 0, 1)], [step(6, 0, 0, 0, 0, 0, 0)], [step(6, 1, 0, -1, 0, 0, 5)],
            [step(3, 5), step(3, -5), step(4, 5), step(4, -5), step(2, 6, 6), step(2, -6, -6)],
        ):
            self.check_book(book([shape(path=contour(0, 0, *steps) + [0])]))
            self.check_book(book([group(path=contour(0, 0, *steps) + [0])]))

    def test_each_odd_mode_and_paint(self):
        for odd in (0, 1):
            for mode in range(4):
                self.check_book(book([shape(odd, mode, (0, 255, mode, 254))]))
            self.check_book(book([group(odd=odd)]))

    def test_a_read_takes_the_place_of_the_book(self):
        told = run(read(BOOK), SYMBOLS, read(book([])), SYMBOLS, WRITE, read(book()), WRITE)
        self.assertEqual([answer[0] for answer in told], [0, 3, 0, 1, 0, 0, 0])
        self.assertEqual(told[4][2], book([]))
        self.assertEqual(told[6][2], book())


class TestFirstWrongByte(unittest.TestCase):
    def check_wrong(self, data, place):
        told = run(read(BOOK), read(data), WRITE)
        self.assertEqual(told[1], wrong(place), data)
        self.assertEqual(told[2], (0, [], BOOK))

    def check_byte(self, before, allowed):
        """Behind these bytes stands a byte; just the allowed ones aren't the first wrong one."""
        for byte in range(256):
            told = last(read(before + [byte]))
            if byte in allowed:
                self.assertIn(told, (OK, wrong(len(before) + 1)), byte)
            else:
                self.assertEqual(told, wrong(len(before)), byte)

    def test_the_first_four(self):
        for place in range(4):
            self.check_byte(HEAD[:place], [HEAD[place]])

    def test_how_many_symbols(self):
        self.check_byte(HEAD, range(256))

    def test_where_an_item_may_begin(self):
        self.check_byte(HEAD + [1], range(4))
        self.check_byte(HEAD + [1] + shape(), range(4))
        self.check_byte(HEAD + [1] + group(), range(4))
        self.check_byte(HEAD + [1] + group()[:-1], range(4))
        self.check_byte(HEAD + [2, 0] + use(0), range(4))
        self.check_byte(HEAD + [2, 0], range(4))

    def test_second_bytes(self):
        self.check_byte(HEAD + [1, 1], range(8))
        self.check_byte(HEAD + [1, 2], range(2))

    def test_paints(self):
        for length in range(2, 6):
            self.check_byte(HEAD + [1] + shape()[:length], range(256))

    def test_where_a_path_begins(self):
        self.check_byte(HEAD + [1] + shape()[:6], [1])
        self.check_byte(HEAD + [1] + group()[:2], [1])

    def test_behind_a_contours_beginning(self):
        self.check_byte(HEAD + [1, 2, 0] + contour(0, 0), range(2, 7))
        self.check_byte(HEAD + [1, 2, 0] + contour(0, 0, step(3, 1)) + contour(5, 6), range(2, 7))

    def test_behind_a_step(self):
        for one in (step(2, 1, 1), step(3, 1), step(4, 1), step(5, 0, 0, 0, 0), step(6, 0, 0, 0, 0, 0, 0)):
            self.check_byte(HEAD + [1, 2, 0] + contour(0, 0, one), range(7))
            self.check_byte(HEAD + [1] + shape()[:6] + contour(0, 0, one, one), range(7))

    def test_the_symbol_that_is_used(self):
        for symbol in (0, 1, 2, 254):
            self.check_byte(HEAD + [255] + [0] * symbol + [3], range(symbol))
            self.check_byte(HEAD + [255] + [0] * symbol + group()[:-1] + [3], range(symbol))

    def test_the_end_at_every_place(self):
        for length in range(len(BOOK)):
            self.check_wrong(BOOK[:length], length)

    def test_too_few_symbols(self):
        self.check_wrong(HEAD + [2, 0], 6)
        self.check_wrong(HEAD + [255], 5)

    def test_bytes_behind_the_book(self):
        for byte in (0, 1, 2, 3, 0x69, 255):
            self.check_wrong(book() + [byte], 5)
            self.check_wrong(BOOK + [byte], len(BOOK))
            self.check_wrong(BOOK + [byte] * 9, len(BOOK))

    def test_the_first_of_several(self):
        self.check_wrong(HEAD + [1, 4, 9, 9, 9], 5)
        self.check_wrong(HEAD + [1, 1, 8, 0, 0, 0, 0, 7], 6)
        self.check_wrong([0x69, 0x6E, 0x6C], 2)
        # dx is wrong, and the bytes end before dy does
        self.check_wrong(HEAD + [1, 2, 0, 1, 0, 0, 2, 0, 0x80], 11)
        # a number that would be too large, but the bytes end before it does
        self.check_wrong(HEAD + [1, 2, 0, 1] + [0xFF] * 8, 16)

    def test_how_deep_groups_lie_does_not_matter(self):
        data = book([nested(400)])
        self.check_wrong(data[:-1], len(data) - 1)
        self.check_wrong(data + [0], len(data))
        self.check_wrong(data[:-401] + [7] + data[-401:], len(data) - 401)


class TestTooMany(unittest.TestCase):
    def test_more_than_4096_bytes(self):
        for data in ([0] * 4097, [0] * 5000, book() + [0] * 4092, book() + [0] * 4995):
            self.assertEqual(run(read(BOOK), read(data), WRITE)[1:], [REFUSED, (0, [], BOOK)])

    def test_4096_bytes_that_are_none(self):
        self.assertEqual(last(read([0] * 4096)), wrong(0))
        self.assertEqual(last(read(book() + [0] * 4091)), wrong(5))

    def test_wrong_bytes_are_told_before_bounds(self):
        data = book([nested(17)])
        self.assertEqual(last(read(data)), (-3, [], []))
        self.assertEqual(last(read(data + [0])), wrong(len(data)))


if __name__ == "__main__":
    unittest.main()
