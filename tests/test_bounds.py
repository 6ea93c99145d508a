"""Within bounds: depth, shapes, points, bytes and symbols, each to its edge, by read, add and put."""

import unittest

from tests.helper import (
    ADD, OK, PAST_BOUNDS, SYMBOLS, WRITE, book, group, last, line_of, nested, put, read, run, shape, use,
)

ONE = use(0, 0, 0, 0, 0, 0, 0)
NINE = use(0, 64, 0, 0, 0, 0, 0)


def book_of_length(length):
    """Uses of a symbol that has no items: they have no shapes and no points, just bytes."""
    rest = length - len(book([], []))
    nines = rest % 8
    data = book([], [ONE] * (rest // 8 - nines) + [NINE] * nines)
    assert len(data) == length
    return data


class Bounds(unittest.TestCase):
    def check_within(self, *symbols):
        data = book(*symbols)
        self.assertEqual(run(read(data), WRITE), [OK, (0, [], data)])

    def check_past(self, *symbols):
        before = book([], [ONE])
        told = run(read(before), read(book(*symbols)), WRITE)
        self.assertEqual(told[1:], [PAST_BOUNDS, (0, [], before)])

    def check_put(self, symbols, path, item, answer):
        before = book(*symbols)
        told = run(read(before), put(path, item), WRITE)
        self.assertEqual(told[:2], [OK, answer])
        self.assertEqual(told[2][2] == before, answer == PAST_BOUNDS)


class TestDepth(Bounds):
    def test_groups(self):
        self.check_within([nested(16)])
        self.check_within([nested(15, shape())])
        self.check_past([nested(17)])
        self.check_past([nested(16, shape())])
        self.check_past([shape(), nested(17), shape()])

    def test_every_symbol_counts(self):
        self.check_past([nested(17)], [])
        self.check_past([], [nested(17)])
        self.check_past([], [nested(17)], [])

    def test_uses(self):
        self.check_within([], [nested(15, use(0))])
        self.check_past([], [nested(16, use(0))])
        self.check_within([shape()], [nested(14, use(0))])
        self.check_past([shape()], [nested(15, use(0))])
        self.check_within([nested(15)], [use(0)])
        self.check_past([nested(16)], [use(0)])
        self.check_within([group(), nested(8)], [nested(7, use(0))])
        self.check_past([group(), nested(8), group()], [nested(8, use(0))])

    def test_uses_within_uses(self):
        within = [[shape()]] + [[use(k)] for k in range(15)]
        self.check_within(*within)
        self.check_past(*within, [use(15)])
        empty = [[]] + [[use(k)] for k in range(16)]
        self.check_within(*empty)
        self.check_past(*empty, [use(16)])
        self.check_within(*empty, [use(15)])

    def test_groups_as_deep_as_the_bytes_allow(self):
        data = nested(454)
        self.assertLessEqual(len(book([data])), 4096)
        self.check_past([data])
        self.check_past([nested(452, shape())])
        self.check_put([[]], [0, 0], data, PAST_BOUNDS)

    def test_put(self):
        self.check_put([[nested(15)]], [0] * 17, shape(), OK)
        self.check_put([[nested(15)]], [0] * 17, group(), OK)
        self.check_put([[nested(15)]], [0] * 17, group(group()), PAST_BOUNDS)
        self.check_put([[nested(15)]], [0] * 16, nested(2), OK)
        self.check_put([[nested(15)]], [0] * 16, nested(3), PAST_BOUNDS)
        self.check_put([[]], [0, 0], nested(16), OK)
        self.check_put([[]], [0, 0], nested(17), PAST_BOUNDS)

    def test_put_where_another_symbol_becomes_too_deep(self):
        symbols = [[shape()], [nested(14, use(0))]]
        self.check_put(symbols, [0, 1], group(), OK)
        self.check_put(symbols, [0, 0], group(shape()), PAST_BOUNDS)
        self.check_put([[]] + [[use(k)] for k in range(16)], [0, 0], shape(), PAST_BOUNDS)
        self.check_put([[]] + [[use(k)] for k in range(15)], [0, 0], shape(), OK)


class TestShapes(Bounds):
    def test_in_one_list(self):
        self.check_within([shape()] * 64)
        self.check_past([shape()] * 65)
        self.check_within([shape()] * 64, [shape()] * 64)
        self.check_past([shape()] * 64, [shape()] * 65)

    def test_groups_are_shapes_too(self):
        self.check_within([group(*[shape()] * 63)])
        self.check_past([group(*[shape()] * 64)])
        self.check_within([group()] * 64)
        self.check_past([group()] * 65)
        self.check_within([group(group(shape()), shape())] * 16)
        self.check_past([group(group(shape()), shape())] * 16 + [shape()])

    def test_through_uses(self):
        self.check_within([shape()] * 8, [use(0)] * 8)
        self.check_past([shape()] * 8, [use(0)] * 8 + [shape()])
        self.check_past([shape()] * 13, [use(0)] * 5)
        self.check_within([shape()] * 8, [group(*[use(0)] * 7)] + [shape()] * 7)
        self.check_past([shape()] * 8, [group(*[use(0)] * 7), use(0)])

    def test_through_uses_within_uses(self):
        doubled = [[shape()]] + [[use(k), use(k)] for k in range(6)]
        self.check_within(*doubled)
        self.check_past(*doubled, [use(6), use(6)])
        self.check_past(*doubled, [use(6), use(0)])
        self.check_within(*doubled, [use(6)])

    def test_uses_of_nothing_have_none(self):
        self.check_within([], [ONE] * 500)

    def test_far_past(self):
        self.check_past([shape()] * 9, *[[use(k)] * 9 for k in range(15)])

    def test_put(self):
        self.check_put([[shape()] * 63], [0, 5], shape(), OK)
        self.check_put([[shape()] * 64], [0, 5], shape(), PAST_BOUNDS)
        self.check_put([[shape()] * 62 + [group()]], [0, 62, 0], group(), OK)
        self.check_put([[shape()] * 63 + [group()]], [0, 63, 0], group(), PAST_BOUNDS)
        self.check_put([[shape()] * 62], [0, 5], group(shape()), OK)
        self.check_put([[shape()] * 62], [0, 5], group(shape(), shape()), PAST_BOUNDS)
        self.check_put([[], [shape()] * 64], [1, 5], use(0), OK)
        self.check_put([[shape()], [shape()] * 64], [1, 5], use(0), PAST_BOUNDS)

    def test_put_where_another_symbol_has_too_many(self):
        symbols = [[shape()] * 7, [use(0)] * 8, [use(1)]]
        self.check_put(symbols, [0, 0], shape(), OK)
        self.check_put(symbols, [0, 0], group(shape()), PAST_BOUNDS)


class TestPoints(Bounds):
    def test_in_one_path(self):
        self.check_within([shape(path=line_of(512))])
        self.check_past([shape(path=line_of(513))])
        self.check_within([group(path=line_of(512))])
        self.check_past([group(path=line_of(513))])

    def test_each_kind_of_step(self):
        rest = line_of(500)
        for path, points in (
            ([1, 0, 0, 2, 2, 2, 0], 2), ([1, 0, 0, 3, 2, 0], 2), ([1, 0, 0, 4, 2, 0], 2),
            ([1, 0, 0, 5, 0, 0, 0, 0, 0], 3), ([1, 0, 0, 6, 0, 0, 0, 0, 0, 0, 0], 4),
            ([1, 0, 0, 5, 0, 0, 0, 0, 1, 0, 0, 6, 0, 0, 0, 0, 0, 0, 0], 7),
        ):
            self.check_within([shape(path=rest), shape(path=path), shape(path=line_of(12 - points))])
            self.check_past([shape(path=rest), shape(path=path), shape(path=line_of(13 - points))])

    def test_in_groups_and_their_items(self):
        self.check_within([group(shape(path=line_of(200)), group(path=line_of(12)), path=line_of(300))])
        self.check_past([group(shape(path=line_of(200)), group(path=line_of(13)), path=line_of(300))])

    def test_through_uses(self):
        self.check_within([shape(path=line_of(64))], [use(0)] * 8)
        self.check_past([shape(path=line_of(64))], [use(0)] * 8 + [shape()])
        self.check_past([shape(path=line_of(65))], [use(0)] * 8)
        doubled = [[group(path=line_of(32))], [use(0)] * 2, [use(1), group(use(1), path=line_of(2))]]
        self.check_within(*doubled, [use(2)] * 3, [use(3), shape(path=line_of(122))])
        self.check_past(*doubled, [use(2)] * 3, [use(3), shape(path=line_of(123))])

    def test_every_symbol_has_its_own(self):
        self.check_within([shape(path=line_of(512))], [shape(path=line_of(512))])

    def test_put(self):
        self.check_put([[shape(path=line_of(500))]], [0, 0], shape(path=line_of(12)), OK)
        self.check_put([[shape(path=line_of(500))]], [0, 0], shape(path=line_of(13)), PAST_BOUNDS)
        symbols = [[shape(path=line_of(60))], [use(0)] * 8]
        self.check_put(symbols, [0, 1], group(path=line_of(4)), OK)
        self.check_put(symbols, [0, 1], group(path=line_of(5)), PAST_BOUNDS)
        self.check_put(symbols, [1, 8], group(path=line_of(32)), OK)
        self.check_put(symbols, [1, 8], group(path=line_of(33)), PAST_BOUNDS)


class TestBytes(Bounds):
    def test_read(self):
        data = book_of_length(4096)
        self.assertEqual(run(read(data), WRITE), [OK, (0, [], data)])
        self.assertEqual(last(read(book_of_length(4097))), (-1, [], []))

    def test_add(self):
        told = run(read(book_of_length(4095)), ADD, SYMBOLS, ADD, SYMBOLS, WRITE)
        self.assertEqual([answer[0] for answer in told], [0, 2, 3, -3, 3, 0])
        self.assertEqual(len(told[-1][2]), 4096)
        self.assertEqual(told[3], PAST_BOUNDS)

    def test_put(self):
        told = run(read(book_of_length(4088)), put([1, 3], ONE), put([1, 3], ONE), ADD)
        self.assertEqual([answer[0] for answer in told], [0, 0, -3, -3])
        told = run(read(book_of_length(4088)), put([1, 3], NINE), put([1, 3], ONE), WRITE)
        self.assertEqual([answer[0] for answer in told], [0, -3, 0, 0])
        self.assertEqual(len(told[-1][2]), 4096)

    def test_put_of_4096_bytes_that_would_be_an_item(self):
        inner = 4096 - len(group())
        item = group(*[ONE] * (inner // 8 - inner % 8) + [NINE] * (inner % 8))
        self.assertEqual(len(item), 4096)
        self.assertEqual(last(ADD, ADD, put([1, 0], item)), PAST_BOUNDS)


class TestSymbols(Bounds):
    def test_255_and_one_more(self):
        many = [ADD] * 199
        self.assertEqual(run(*many), [(k, [], []) for k in range(199)])
        told = run(read(book(*[[]] * 254)), ADD, SYMBOLS, ADD, SYMBOLS, ADD, WRITE)
        self.assertEqual([answer[0] for answer in told], [0, 254, 255, -3, 255, -3, 0])
        self.assertEqual(told[-1][2], book(*[[]] * 255))

    def test_a_symbol_added_has_no_items_and_lies_behind(self):
        told = run(read(book([shape()])), ADD, [5, 1, 1], [5, 1, 0], WRITE)
        self.assertEqual(told[1:], [(1, [], []), OK, (1, [], []), (0, [], book([shape()], []))])


if __name__ == "__main__":
    unittest.main()
