"""Numbers in bytes, and the range of each kind."""

import unittest

from tests.helper import (
    ADD, LINE, OK, WRITE, book, contour, last, look, number, numbers, put, read, run, shape, step, use, wrong,
)

LEAST = -4194304
GREATEST = 4194303
FACTORS = (
    0, 1, -1, 2, -2, 31, -32, 63, -64, 64, -65, 8191, -8192, 8192, -8193, 2 ** 32, -2 ** 32, 2 ** 48,
    2 ** 62 - 1, -2 ** 62, 2 ** 62, -2 ** 62 - 1, 2 ** 63 - 1, -2 ** 63,
)
SHIFTS = (0, 1, -1, 63, -64, 64, -65, 65535, -65536, 2 ** 31 - 1, -2 ** 31)


def use_of_bytes(place, data):
    """A use whose numbers are 0 but the one at place, which has these bytes."""
    return [3, 0] + [0] * place + data + [0] * (5 - place)


def read_use(place, data):
    return run(read(book([], [use_of_bytes(place, data)])), look(1, 0))


# behind symbol 0, the 3 and the symbol that is used
PLACE_OF_NUMBERS = len(book([])) + 2


class TestForm(unittest.TestCase):
    def test_written_by_sevens_the_lowest_first(self):
        for z, data in (
            (0, [0]), (-1, [1]), (1, [2]), (-64, [127]), (63, [126]), (64, [0x80, 1]), (-65, [0x81, 1]),
            (8191, [0xFE, 0x7F]), (8192, [0x80, 0x80, 1]), (2 ** 32, [0x80, 0x80, 0x80, 0x80, 0x20]),
            (2 ** 63 - 1, [0xFE] + [0xFF] * 8 + [1]), (-2 ** 63, [0xFF] * 9 + [1]),
        ):
            item = use_of_bytes(0, data)
            told = run(read(book([], [item])), look(1, 0), WRITE)
            self.assertEqual(told[0], OK, z)
            self.assertEqual(told[1], (3, [0, z, 0, 0, 0, 0, 0], []))
            self.assertEqual(told[2], (0, [], book([], [item])))

    def test_a_number_of_ten_bytes(self):
        for z in (2 ** 62, -2 ** 62 - 1, 2 ** 63 - 1, -2 ** 63):
            self.assertEqual(len(number(z)), 10)
            self.assertEqual(read_use(3, number(z))[1][1][4], z)

    def test_all_places_of_a_map(self):
        matrix = (-2 ** 63, 2 ** 63 - 1, -12345678901, 5, -2 ** 31, 2 ** 31 - 1)
        told = run(read(book([], [use(0, *matrix)])), look(1, 0), WRITE)
        self.assertEqual(told[1], (3, [0] + list(matrix), []))
        self.assertEqual(told[2][2], book([], [use(0, *matrix)]))

    def test_ten_bytes_with_bit_7(self):
        for data in ([0x80] * 10, [0xFF] * 10, [0x80] * 10 + [1], [0x80] * 9 + [0x81, 0]):
            for place in range(6):
                self.assertEqual(read_use(place, data)[0], wrong(PLACE_OF_NUMBERS + place))

    def test_ten_bytes_with_bit_7_and_then_the_end(self):
        begin = book([], [])[:-1] + [3, 0]
        self.assertEqual(last(read(begin + [0x80] * 10)), wrong(len(begin)))
        self.assertEqual(last(read(begin + [0x80] * 9)), wrong(len(begin) + 9))

    def test_a_last_byte_of_0_behind_others(self):
        for length in range(1, 10):
            for byte in (0x80, 0x81, 0xFF):
                told = read_use(1, [byte] * length + [0])[0]
                self.assertEqual(told, wrong(PLACE_OF_NUMBERS + 1), (length, byte))


class TestRangesOfMaps(unittest.TestCase):
    def test_factors(self):
        for place in range(4):
            for z in FACTORS:
                told = read_use(place, number(z))
                self.assertEqual(told[0], OK, (place, z))
                self.assertEqual(told[1][1][1 + place], z)

    def test_factors_past_the_ends(self):
        for place in range(4):
            for z in (2 ** 63, -2 ** 63 - 1, 2 ** 64, -2 ** 64, 2 ** 68, 2 ** 69 - 1, -2 ** 69):
                self.assertEqual(len(number(z)), 10)
                self.assertEqual(read_use(place, number(z))[0], wrong(PLACE_OF_NUMBERS + place), (place, z))

    def test_shifts(self):
        for place in (4, 5):
            for z in SHIFTS:
                told = read_use(place, number(z))
                self.assertEqual(told[0], OK, (place, z))
                self.assertEqual(told[1][1][1 + place], z)

    def test_shifts_past_the_ends(self):
        for place in (4, 5):
            for z in (2 ** 31, -2 ** 31 - 1, 2 ** 32, 2 ** 63 - 1, -2 ** 63, 2 ** 69 - 1):
                self.assertEqual(read_use(place, number(z))[0], wrong(PLACE_OF_NUMBERS + place), (place, z))


PLACE_OF_PATH = len(book([])) - 1 + 6


def read_path(data):
    """The answer's wrong byte, counted from the path's first byte; None if it is a path."""
    told = run(read(book([shape(path=data)])), WRITE)
    if told[0] == OK and told[1] == (0, [], book([shape(path=data)])):
        return None
    if told[1] != (0, [], book()):
        raise AssertionError(told)
    return told[0][1][0] - PLACE_OF_PATH


class TestRangesOfPoints(unittest.TestCase):
    def check_wrong_last(self, *parts):
        """The path is right up to the last of the numbers, which is wrong."""
        self.assertEqual(read_path(sum(parts, []) + [0] * 12), len(sum(parts[:-1], [])), parts)

    def test_beginnings(self):
        for x in (LEAST, -1, 0, 1, GREATEST):
            for y in (LEAST, -1, 0, 1, GREATEST):
                self.assertIsNone(read_path(contour(x, y, step(3, -1 if x > 0 else 1)) + [0]))
        for z in (LEAST - 1, GREATEST + 1, 2 ** 40, -2 ** 63):
            self.check_wrong_last([1], number(z))
            self.check_wrong_last([1, 0], number(z))

    def test_straight_steps_to_the_ends(self):
        for x in (LEAST, -7, GREATEST):
            for end in (LEAST, 0, GREATEST):
                if x != end:
                    self.assertIsNone(read_path(contour(x, 5, step(3, end - x)) + [0]))
                    self.assertIsNone(read_path(contour(5, x, step(4, end - x)) + [0]))
                    self.assertIsNone(read_path(contour(x, x, step(2, end - x, end - x)) + [0]))

    def test_straight_steps_past_the_ends(self):
        for x in (LEAST, -7, 0, GREATEST):
            for end in (LEAST - 1, GREATEST + 1, 2 ** 62):
                self.check_wrong_last(contour(x, 5) + [3], number(end - x))
                self.check_wrong_last(contour(5, x) + [4], number(end - x))
                self.check_wrong_last(contour(x, 5) + [2], number(end - x))
                self.check_wrong_last(contour(5, x) + [2, 2], number(end - x))

    def test_steps_lead_from_where_the_path_is(self):
        up = step(4, GREATEST)
        self.assertIsNone(read_path(contour(0, 0, up, step(4, LEAST - GREATEST)) + [0]))
        self.check_wrong_last(contour(0, 0, up) + [4], number(1))
        self.check_wrong_last(contour(0, 0, step(5, 3, 4, 5, GREATEST - 4)) + [4], number(1))
        self.check_wrong_last(contour(0, 0, step(6, 0, 0, 3, 4, 5, GREATEST - 4)) + [4], number(1))
        # a contour begins where it says, not where the last one was
        self.assertIsNone(read_path(contour(0, 0, up) + contour(GREATEST, 1, step(3, -1)) + [0]))

    def test_control_points_are_points_too(self):
        for mark, most in ((5, 4), (6, 6)):
            for place in range(most):
                before = [0] * place
                self.check_wrong_last(contour(GREATEST, GREATEST) + [mark] + before, number(1))
                self.check_wrong_last(contour(LEAST, LEAST) + [mark] + before, number(-1))
                self.assertIsNone(
                    read_path(contour(LEAST, LEAST, step(mark, *before, 1, *[0] * (most - 1 - place))) + [0])
                )

    def test_nowhere_is_no_straight_step(self):
        self.check_wrong_last(contour(3, 4) + [2], [0])
        self.check_wrong_last(contour(3, 4) + [2, 2], [0])
        self.check_wrong_last(contour(3, 4) + [3], [0])
        self.check_wrong_last(contour(3, 4) + [4], [0])
        self.check_wrong_last(contour(3, 4, step(2, 1, 1)) + [3], [0])

    def test_curves_may_lead_nowhere(self):
        self.assertIsNone(read_path(contour(3, 4, step(5, 0, 0, 0, 0), step(6, 0, 0, 0, 0, 0, 0)) + [0]))

    def test_ten_bytes_and_last_0_in_paths(self):
        for mark in (2, 3, 4, 5, 6):
            self.check_wrong_last(contour(0, 0) + [mark], [0x80] * 10)
            self.check_wrong_last(contour(0, 0) + [mark], [0x82, 0])


class TestInPut(unittest.TestCase):
    def test_the_same_in_an_item(self):
        self.assertEqual(last(ADD, put([0, 0], shape(path=[1] + [0x80] * 10))), wrong(7))
        self.assertEqual(last(ADD, put([0, 0], shape(path=[1] + numbers(0, GREATEST + 1) + [3, 2, 0]))), wrong(8))
        self.assertEqual(last(ADD, ADD, put([1, 0], [3, 0, 0, 0, 0, 0, 0] + number(2 ** 31))), wrong(7))
        self.assertEqual(last(ADD, put([0, 0], shape(path=LINE[:-2] + [0]))), wrong(10))


if __name__ == "__main__":
    unittest.main()
