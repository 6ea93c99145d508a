"""Layers: masks cut by groups, in their order, how deep, counted through uses; views that are good and not."""

import unittest

from tests.helper import (
    OK, ONE, REFUSED, SAME, book, bounds, box, cells, draw, group, hit, last, layers, moved, nested, put, read, run,
    shape, take, use, view,
)

FAR = 18446744073709551615
FULL = 65535
LEFT, RIGHT, UPPER, LOWER = 0x3333, 0xCCCC, 0x00FF, 0xFF00
LEFT_HALF, RIGHT_HALF = box(0, 0, 128, 256), box(128, 0, 128, 256)
UPPER_HALF, LOWER_HALF = box(0, 0, 256, 128), box(0, 128, 256, 128)
FACTORS, SHIFTS = (2 ** 63, -2 ** 63 - 1, FAR, -FAR), (2 ** 31, -2 ** 31 - 1, FAR, -FAR)
WRONG_WINDOWS = (
    (0, 0, 9, 1), (0, 0, 1, 9), (0, 0, -1, 1), (0, 0, 1, -1), (0, 0, FAR, 0), (0, 0, 0, FAR), (0, 0, -FAR, 0),
    (-4194305, 0, 1, 1), (0, -4194305, 1, 1), (-4194305, 0, 0, 0), (4194304, 0, 1, 1), (0, 4194304, 1, 1),
    (4194297, 0, 8, 1), (0, 4194297, 1, 8), (4194305, 0, 0, 0), (0, 4194305, 0, 0), (FAR, 0, 1, 1), (0, -FAR, 1, 1),
    (FAR, FAR, -FAR, -FAR),
)
WINDOWS = (
    (0, 0, 0, 0), (0, 0, 8, 8), (0, 0, 0, 8), (0, 0, 8, 0), (-4194304, -4194304, 8, 8), (4194296, 4194296, 8, 8),
    (4194304, 4194304, 0, 0), (4194303, -4194304, 1, 0),
)
# Each goes wrong in one way.
NOT_GOOD = [
    view(1), view(255), view(FAR),
    *[view(0, SAME[:k] + (wrong,) + SAME[k + 1:]) for k in range(4) for wrong in FACTORS],
    *[view(0, SAME[:k] + (wrong,) + SAME[k + 1:]) for k in (4, 5) for wrong in SHIFTS],
    *[view(0, SAME, window) for window in WRONG_WINDOWS],
]
GOOD = [
    view(0, (2 ** 63 - 1,) * 4 + (2 ** 31 - 1,) * 2), view(0, (-2 ** 63,) * 4 + (-2 ** 31,) * 2),
    *[view(0, SAME, window) for window in WINDOWS],
]


def told(mask, deep=1, order=0, paint=(1, 2, 3, 4), mode=0, odd=0):
    return [mask, *paint, mode, odd, deep, order]


class Layers(unittest.TestCase):
    def check_layers(self, symbols, cell, seen, expected):
        answer = last(read(book(*symbols)), layers(*cell, seen))
        self.assertEqual(answer, (len(expected), sum(expected, []), []))


class TestOneList(Layers):
    def test_none(self):
        self.check_layers([[]], (0, 0), view(), [])
        self.check_layers([[shape(path=cells(1, 0))]], (0, 0), view(), [])

    def test_all_nine_numbers(self):
        one = shape(1, 3, (255, 0, 128, 7), LEFT_HALF)
        self.check_layers([[one]], (0, 0), view(), [told(LEFT, 1, 0, (255, 0, 128, 7), 3, 1)])
        self.check_layers([[one]], (5, 5), view(), [])

    def test_in_order_and_counted_where_they_do_not_cover(self):
        away, one, two = shape(path=cells(9, 9)), shape(1, 1, (9, 8, 7, 6), UPPER_HALF), shape(path=RIGHT_HALF)
        here = told(UPPER, 1, 1, (9, 8, 7, 6), 1, 1)
        self.check_layers([[away, one, away, away, two, away]], (0, 0), view(), [here, told(RIGHT, 1, 4)])
        self.check_layers([[two, one]], (0, 0), view(), [told(RIGHT, 1, 0), here])
        self.check_layers([[away, one, away]], (9, 9), view(), [told(FULL, 1, 0), told(FULL, 1, 2)])

    def test_alpha_0_and_the_same_twice_are_layers_too(self):
        clear = shape(paint=(1, 2, 3, 0), path=cells(0, 0))
        expected = [told(FULL, 1, k, (1, 2, 3, 0)) for k in range(3)]
        self.check_layers([[clear] * 3], (0, 0), view(), expected)

    def test_sixty_four_layers(self):
        symbols = [[shape(paint=(k, 0, 0, 1), path=cells(0, 0)) for k in range(64)]]
        self.check_layers(symbols, (0, 0), view(), [told(FULL, 1, k, (k, 0, 0, 1)) for k in range(64)])

    def test_every_symbol_of_the_book(self):
        symbols = [[shape(path=LEFT_HALF)], [], [shape(path=RIGHT_HALF)]]
        self.check_layers(symbols, (0, 0), view(0), [told(LEFT)])
        self.check_layers(symbols, (0, 0), view(1), [])
        self.check_layers(symbols, (0, 0), view(2), [told(RIGHT)])


class TestGroups(Layers):
    def test_a_group_cuts(self):
        inner = shape(path=LEFT_HALF)
        self.check_layers([[group(inner, path=UPPER_HALF)]], (0, 0), view(), [told(LEFT & UPPER, 2)])
        self.check_layers([[group(inner, path=RIGHT_HALF)]], (0, 0), view(), [])
        self.check_layers([[group(inner, path=cells(0, 0))]], (0, 0), view(), [told(LEFT, 2)])
        self.check_layers([[group(inner, path=cells(1, 0))]], (0, 0), view(), [])

    def test_a_group_itself_is_no_layer(self):
        self.check_layers([[group(path=cells(0, 0))]], (0, 0), view(), [])
        self.check_layers([[group(path=cells(0, 0)), shape(path=cells(0, 0))]], (0, 0), view(), [told(FULL, 1, 0)])

    def test_groups_in_one_another(self):
        inner = group(shape(path=box(0, 0, 256, 192)), path=box(64, 0, 192, 256))
        self.check_layers([[group(inner, path=LOWER_HALF)]], (0, 0), view(), [told(0x0E00, 3)])

    def test_a_group_cuts_only_its_own_items(self):
        whole = shape(path=cells(0, 0))
        items = [whole, group(whole, whole, path=LEFT_HALF), whole, group(whole, path=UPPER_HALF), whole]
        self.check_layers([items], (0, 0), view(), [
            told(FULL, 1, 0), told(LEFT, 2, 1), told(LEFT, 2, 2), told(FULL, 1, 3), told(UPPER, 2, 4), told(FULL, 1, 5),
        ])

    def test_odd_groups(self):
        twice = cells(0, 0)[:-1] * 2 + [0]
        whole = shape(path=cells(0, 0))
        self.check_layers([[group(whole, odd=1, path=twice)]], (0, 0), view(), [])
        self.check_layers([[group(whole, odd=0, path=twice)]], (0, 0), view(), [told(FULL, 2)])
        self.check_layers([[group(shape(odd=1, path=twice), path=cells(0, 0))]], (0, 0), view(), [])
        self.check_layers([[group(whole, odd=1, path=LEFT_HALF)]], (0, 0), view(), [told(LEFT, 2)])

    def test_shapes_that_are_cut_away_count_too(self):
        whole = shape(path=cells(0, 0))
        gone = group(whole, group(whole, whole, path=cells(0, 0)), path=cells(5, 5))
        self.check_layers([[gone, whole]], (0, 0), view(), [told(FULL, 1, 3)])

    def test_fifteen_groups(self):
        item = shape(path=cells(0, 0))
        for k in range(15):
            item = group(item, path=cells(-k, -k, 20, 20))
        self.check_layers([[item]], (0, 0), view(), [told(FULL, 16)])
        self.check_layers([[nested(15, shape(path=cells(0, 0)))]], (0, 0), view(), [])


class TestUses(Layers):
    def test_items_stand_where_the_use_stands(self):
        symbols = [
            [shape(paint=(9, 0, 0, 0), path=cells(0, 0)), shape(paint=(8, 0, 0, 0), path=cells(0, 0))],
            [shape(path=cells(0, 0)), use(0), shape(path=LEFT_HALF), moved(0, 256, 0), use(0), shape(path=cells(0, 0))],
        ]
        nine, eight = (9, 0, 0, 0), (8, 0, 0, 0)
        self.check_layers(symbols, (0, 0), view(1), [
            told(FULL, 1, 0), told(FULL, 2, 1, nine), told(FULL, 2, 2, eight), told(LEFT, 1, 3),
            told(FULL, 2, 6, nine), told(FULL, 2, 7, eight), told(FULL, 1, 8),
        ])
        self.check_layers(symbols, (1, 0), view(1), [told(FULL, 2, 4, nine), told(FULL, 2, 5, eight)])

    def test_groups_around_uses_and_in_what_is_used(self):
        symbols = [
            [group(shape(path=cells(0, 0)), path=LEFT_HALF), shape(path=cells(0, 0))],
            [group(use(0), path=UPPER_HALF), use(0)],
            [group(group(use(1), path=box(0, 0, 256, 64)), path=cells(0, 0))],
        ]
        self.check_layers(symbols, (0, 0), view(1), [
            told(LEFT & UPPER, 4, 0), told(UPPER, 3, 1), told(LEFT, 3, 2), told(FULL, 2, 3),
        ])
        self.check_layers(symbols, (0, 0), view(2), [
            told(0x0003, 7, 0), told(0x000F, 6, 1), told(0x0003, 6, 2), told(0x000F, 5, 3),
        ])

    def test_uses_within_uses(self):
        symbols = [[shape(path=cells(0, 0))]] + [[moved(k, 256, 0), use(k)] for k in range(4)]
        for cx, orders in ((0, [15]), (1, [7, 11, 13, 14]), (2, [3, 5, 6, 9, 10, 12]), (4, [0]), (5, [])):
            self.check_layers(symbols, (cx, 0), view(4), [told(FULL, 5, order) for order in orders])

    def test_uses_of_nothing_more_than_can_be_walked(self):
        empty = [[]] + [[use(k, 0, 0, 0, 0, 0, 0)] * 30 for k in range(14)]
        whole = shape(path=cells(0, 0))
        symbols = empty + [[whole, use(14), group(use(14), path=cells(0, 0)), whole]]
        self.check_layers(symbols, (0, 0), view(15), [told(FULL, 1, 0), told(FULL, 1, 1)])
        window = view(14, SAME, (0, 0, 8, 8))
        answers = run(
            read(book(*symbols)), bounds(window), draw(3, window, [7] * 64), hit(0, 0, window), put([0, 0], group()),
            take(0, 0),
        )
        self.assertEqual(answers[1:], [OK, (0, [7] * 64, []), OK, (-3, [], []), OK])
        groups = [[group()]] + [[use(k)] * 2 for k in range(6)] + [[use(5), whole]]
        self.check_layers(groups, (0, 0), view(7), [told(FULL, 1, 0)])

    def test_uses_of_nothing_beside_a_shape(self):
        whole = shape(path=cells(0, 0))
        for deep, items in (
            (2, [use(0), whole]), (2, [whole, use(0)]), (3, [group(use(0), whole, path=cells(0, 0))]),
            (3, [use(0), group(whole, use(0), group(), path=cells(0, 0)), use(0)]),
        ):
            self.check_layers([[], items, [use(0), use(1), use(0)]], (0, 0), view(2), [told(FULL, deep)])


class TestCells(Layers):
    def test_the_window_does_not_matter(self):
        symbols = [[shape(path=cells(3, 3))]]
        for window in ((0, 0, 0, 0), (3, 3, 1, 1), (0, 0, 8, 8), (-4194304, -4194304, 8, 8), (4194304, 4194304, 0, 0)):
            self.check_layers(symbols, (3, 3), view(0, SAME, window), [told(FULL)])
            self.check_layers(symbols, (2, 3), view(0, SAME, window), [])

    def test_the_edges_of_cx_and_cy(self):
        everywhere = view(0, (2 ** 63 - 1, 0, 0, 2 ** 63 - 1, 0, 0))
        data = book([shape(path=box(-1, -1, 2, 2))])
        for inside in (-4194304, 4194303):
            self.assertEqual(last(read(data), layers(inside, 0, everywhere)), (1, told(FULL), []))
            self.assertEqual(last(read(data), layers(0, inside, everywhere)), (1, told(FULL), []))
        for outside in (-4194305, 4194304, FAR, -FAR):
            self.assertEqual(last(read(data), layers(outside, 0, everywhere)), REFUSED)
            self.assertEqual(last(read(data), layers(0, outside, everywhere)), REFUSED)
            self.assertEqual(last(read(data), layers(outside, outside, everywhere)), REFUSED)


class TestGoodViews(unittest.TestCase):
    def ask(self, seen, data=book([shape(path=cells(0, 0))])):
        pixels = [0] * (seen[9] * seen[10]) if 0 <= seen[9] * seen[10] <= 64 else []
        asked = (layers(0, 0, seen), bounds(seen), hit(0, 0, seen), draw(0, seen, pixels))
        return run(read(data), *asked)[1:]

    def test_not_good(self):
        for seen in NOT_GOOD:
            self.assertEqual(self.ask(seen), [REFUSED] * 4, seen)
        self.assertEqual(self.ask(view(), book()), [REFUSED] * 4)

    def test_good(self):
        for seen in GOOD:
            self.assertNotIn(REFUSED, self.ask(seen), seen)

    def test_the_last_symbol(self):
        data = book(*[[]] * 255)
        self.assertEqual(self.ask(view(254), data), [OK, OK, OK, (0, [0], [])])
        self.assertEqual(self.ask(view(255), data), [REFUSED] * 4)

    def test_good_once_there_is_the_symbol(self):
        answers = run(layers(0, 0, view()), [4], layers(0, 0, view()), read(book()), layers(0, 0, view()))
        self.assertEqual(answers, [REFUSED, OK, OK, OK, REFUSED])


class TestTheSameHoweverItCameToBe(unittest.TestCase):
    def test_read_or_put_and_taken(self):
        one, two = shape(path=LEFT_HALF), group(shape(path=cells(0, 0)), path=UPPER_HALF)
        asked = (layers(0, 0, view(1)), hit(0, 0, view(1)), bounds(view(1)), draw(0, view(1), [5]))
        whole = run(read(book([one], [use(0), two])), *asked)[1:]
        built = run(
            [4], [4], put([1, 0], two), put([0, 0], two), put([0, 0], one), put([1, 0], use(0)), put([1, 1], one),
            take(0, 1), take(1, 1), *asked,
        )
        self.assertEqual(built[-4:], whole)

    def test_moved_by_a_whole_cell_by_view_or_use(self):
        symbols = [[shape(path=box(10, 20, 200, 210))], [moved(0, 256, -512)]]
        answers = run(
            read(book(*symbols)), layers(0, 0, view(0)), layers(1, -2, view(1)),
            layers(1, -2, view(0, (ONE, 0, 0, ONE, 256, -512))),
        )
        masks = [answer[1][0] for answer in answers[1:]]
        self.assertEqual(masks, [0x7777] * 3)


if __name__ == "__main__":
    unittest.main()
