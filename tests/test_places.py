"""Paths of numbers: count, look and bytes of what they lead to."""

import unittest

from tests.helper import (
    ADD, OK, REFUSED, book, contour, count, group, item_bytes, look, nested, read, run, shape, step, use,
)

FAR = 18446744073709551615
CURVED = contour(1, 2, step(5, 3, 4, 5, 6), step(6, -1, -2, -3, -4, -5, -6), step(2, 7, 7)) + [0]
SHAPE = shape(1, 2, (10, 20, 30, 40), CURVED)
USE = use(0, 1, -2, 3, -4, 5, -6)
INNER = group(shape(0, 1, (0, 0, 0, 255)), USE, group(), odd=0)
GROUP = group(SHAPE, INNER, odd=1, path=CURVED)
SYMBOLS = ([shape(1, 0, (255, 255, 255, 255)), group()], [USE, GROUP, shape(0, 3)], [])
BOOK = book(*SYMBOLS)

# of each path that leads somewhere: how many items count tells, what look tells, the item's bytes
PLACES = (
    ([0], 2, None, None),
    ([1], 3, None, None),
    ([2], 0, None, None),
    ([0, 0], None, (1, [1, 0, 255, 255, 255, 255], []), SYMBOLS[0][0]),
    ([0, 1], 0, (2, [0, 0], []), group()),
    ([1, 0], None, (3, [0, 1, -2, 3, -4, 5, -6], []), USE),
    ([1, 1], 2, (2, [1, 2], []), GROUP),
    ([1, 2], None, (1, [0, 3, 1, 2, 3, 4], []), shape(0, 3)),
    ([1, 1, 0], None, (1, [1, 2, 10, 20, 30, 40], []), SHAPE),
    ([1, 1, 1], 3, (2, [0, 3], []), INNER),
    ([1, 1, 1, 0], None, (1, [0, 1, 0, 0, 0, 255], []), shape(0, 1, (0, 0, 0, 255))),
    ([1, 1, 1, 1], None, (3, [0, 1, -2, 3, -4, 5, -6], []), USE),
    ([1, 1, 1, 2], 0, (2, [0, 0], []), group()),
)
NOWHERE = (
    [], [3], [255], [FAR],
    [0, 2], [0, 3], [0, FAR], [1, 3], [2, 0], [2, FAR], [3, 0], [FAR, 0], [FAR, FAR],
    [1, 1, 2], [1, 1, FAR], [1, 1, 1, 3], [0, 1, 0],
    [0, 0, 0], [1, 2, 0], [1, 1, 0, 0],  # through a shape
    [1, 0, 0], [1, 0, 1], [1, 1, 1, 1, 0],  # through a use
    [1, 1, 1, 2, 0], [1, 3, 0], [1, FAR, 0], [0] * 17, [0] * 18, [1] * 17, [1] * 18, [0] * 64, [FAR] * 64,
)


class Places(unittest.TestCase):
    def check_place(self, data, path, length, seen, item):
        told = run(read(data), count(*path), look(*path), item_bytes(*path))
        self.assertEqual(told[0], OK)
        self.assertEqual(told[1], REFUSED if length is None else (length, [], []), path)
        self.assertEqual(told[2], OK if seen is None else seen, path)
        self.assertEqual(told[3], REFUSED if item is None else (0, [], item), path)


class TestWhereItLeads(Places):
    def test_somewhere(self):
        for path, length, seen, item in PLACES:
            self.check_place(BOOK, path, length, seen, item)

    def test_nowhere(self):
        for path in NOWHERE:
            self.check_place(BOOK, path, None, None, None)

    def test_in_the_empty_book(self):
        for path in ([], [0], [0, 0], [FAR], [FAR] * 17):
            self.check_place(book(), path, None, None, None)

    def test_asking_changes_nothing(self):
        asked = [call(*place[0]) for place in PLACES for call in (count, look, item_bytes)]
        told = run(read(BOOK), *asked, [2])
        self.assertEqual(told[-1], (0, [], BOOK))

    def test_in_a_symbol_that_was_added(self):
        told = run(ADD, count(0), look(0), look(0, 0), item_bytes(0), item_bytes(0, 0))
        self.assertEqual(told[1:], [OK, OK, OK, REFUSED, REFUSED])


class TestSeventeenNumbers(Places):
    def test_17_numbers_to_a_group(self):
        data = book([nested(16)])
        self.check_place(data, [0] * 16, 1, (2, [0, 1], []), nested(2))
        self.check_place(data, [0] * 17, 0, (2, [0, 0], []), group())
        self.check_place(data, [0] * 18, None, None, None)
        self.check_place(data, [0] * 64, None, None, None)

    def test_17_numbers_to_a_shape_and_a_use(self):
        data = book([], [nested(15, SHAPE), nested(15, USE)])
        self.check_place(data, [1] + [0] * 16, None, (1, [1, 2, 10, 20, 30, 40], []), SHAPE)
        self.check_place(data, [1, 1] + [0] * 15, None, (3, [0, 1, -2, 3, -4, 5, -6], []), USE)
        self.check_place(data, [1] + [0] * 17, None, None, None)
        self.check_place(data, [1, 1] + [0] * 16, None, None, None)
        self.check_place(data, [1] + [0] * 15 + [1], None, None, None)


if __name__ == "__main__":
    unittest.main()
