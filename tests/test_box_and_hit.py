"""bounds and hit: the least box of a window's cells that have a layer, and the topmost shape at a place."""

import unittest

from tests.helper import (
    OK, ONE, REFUSED, SAME, book, bounds, box, cells, contour, group, hit, last, moved, nested, read, run, shape, step,
    use, view,
)

FAR = 18446744073709551615


def window(x, y, w, h, symbol=0):
    return view(symbol, SAME, (x, y, w, h))


class TestBounds(unittest.TestCase):
    def check_bounds(self, items, seen, expected):
        answer = last(read(book(items)), bounds(seen))
        self.assertEqual(answer, (1, expected, []) if expected else OK)

    def test_none(self):
        self.check_bounds([], window(0, 0, 8, 8), [])
        self.check_bounds([shape(path=cells(9, 0))], window(0, 0, 8, 8), [])
        self.check_bounds([shape(path=cells(8, 8)), shape(path=cells(-1, -1))], window(0, 0, 8, 8), [])
        self.check_bounds([group(path=cells(0, 0, 8, 8))], window(0, 0, 8, 8), [])

    def test_one_cell(self):
        for x, y in ((0, 0), (7, 7), (0, 7), (7, 0), (3, 5)):
            self.check_bounds([shape(path=cells(x, y))], window(0, 0, 8, 8), [x, y, 1, 1])
            self.check_bounds([shape(path=cells(x, y))], window(x, y, 1, 1), [x, y, 1, 1])
            self.check_bounds([shape(path=cells(x - 20, y - 20))], window(-20, -20, 8, 8), [x - 20, y - 20, 1, 1])

    def test_the_whole_window(self):
        self.check_bounds([shape(path=cells(0, 0, 8, 8))], window(0, 0, 8, 8), [0, 0, 8, 8])
        self.check_bounds([shape(path=cells(-9, -9, 40, 40))], window(-3, 2, 5, 7), [-3, 2, 5, 7])

    def test_the_least_box_of_several(self):
        items = [shape(path=cells(1, 2)), shape(path=cells(6, 3)), shape(path=cells(4, 5))]
        self.check_bounds(items, window(0, 0, 8, 8), [1, 2, 6, 4])
        self.check_bounds(items, window(2, 0, 6, 8), [4, 3, 3, 3])
        self.check_bounds(items, window(0, 0, 4, 8), [1, 2, 1, 1])
        self.check_bounds([shape(path=cells(7, 0)), shape(path=cells(0, 7))], window(0, 0, 8, 8), [0, 0, 8, 8])

    def test_samples_count_and_not_the_path(self):
        # what touches a cell without covering one of its samples is no layer there
        self.check_bounds([shape(path=box(256 - 31, 0, 256 + 62, 256))], window(0, 0, 8, 8), [1, 0, 1, 1])
        self.check_bounds([shape(path=box(256 - 32, 0, 256 + 65, 256))], window(0, 0, 8, 8), [0, 0, 3, 1])
        self.check_bounds([shape(path=box(33, 33, 63, 63))], window(0, 0, 8, 8), [])
        self.check_bounds([shape(path=box(96, 96, 1, 1))], window(0, 0, 8, 8), [0, 0, 1, 1])

    def test_alpha_0_counts(self):
        self.check_bounds([shape(paint=(0, 0, 0, 0), path=cells(2, 2))], window(0, 0, 8, 8), [2, 2, 1, 1])

    def test_cut_by_groups_and_through_uses(self):
        symbols = [[shape(path=cells(0, 0, 8, 8))], [group(moved(0, 512, 0), path=cells(1, 1, 3, 2))]]
        answer = last(read(book(*symbols)), bounds(window(0, 0, 8, 8, 1)))
        self.assertEqual(answer, (1, [2, 1, 2, 2], []))

    def test_windows_of_no_cells(self):
        for w, h in ((0, 0), (0, 8), (8, 0)):
            self.check_bounds([shape(path=cells(0, 0, 8, 8))], window(0, 0, w, h), [])

    def test_a_view_that_is_not_good(self):
        for seen in (window(0, 0, 9, 8), window(0, 0, 8, -1), window(0, 0, 1, 1, 1), window(-4194305, 0, 1, 1)):
            self.assertEqual(last(read(book([shape(path=cells(0, 0))])), bounds(seen)), REFUSED)


class Hits(unittest.TestCase):
    def check_hit(self, symbols, place, seen, expected):
        answer = last(read(book(*symbols)), hit(*place, seen))
        self.assertEqual(answer, (len(expected), expected, []), (place, seen))


class TestHit(Hits):
    def test_none(self):
        self.check_hit([[]], (0, 0), view(), [])
        self.check_hit([[shape(path=box(10, 10, 5, 5))]], (9, 10), view(), [])
        self.check_hit([[group(path=box(10, 10, 5, 5))]], (12, 12), view(), [])

    def test_places_between_samples(self):
        for place in ((10, 10), (14, 14), (12, 10)):
            self.check_hit([[shape(path=box(10, 10, 5, 5))]], place, view(), [0, 0])
        self.check_hit([[shape(path=box(10, 10, 5, 5))]], (15, 14), view(), [])

    def test_the_topmost_of_several(self):
        items = [shape(path=box(0, 0, 100, 100)), shape(path=box(50, 0, 100, 100)), shape(path=box(0, 50, 100, 100))]
        for place, expected in (
            ((10, 10), [0, 0]), ((60, 10), [0, 1]), ((10, 60), [0, 2]), ((60, 60), [0, 2]), ((120, 60), [0, 1]),
            ((10, 120), [0, 2]), ((120, 120), []),
        ):
            self.check_hit([items], place, view(), expected)

    def test_odd_shapes(self):
        twice = box(0, 0, 100, 100)[:-1] + box(50, 50, 100, 100)
        self.check_hit([[shape(path=twice), shape(odd=1, path=twice)]], (70, 70), view(), [0, 0])
        self.check_hit([[shape(path=twice), shape(odd=1, path=twice)]], (20, 20), view(), [0, 1])

    def test_alpha_0_is_hit_too(self):
        self.check_hit([[shape(path=cells(0, 0)), shape(paint=(0, 0, 0, 0), path=cells(0, 0))]], (5, 5), view(), [0, 1])

    def test_through_groups(self):
        inner = group(shape(path=box(0, 0, 90, 90)), path=box(0, 0, 60, 60))
        items = [shape(path=box(0, 0, 200, 200)), group(shape(path=box(0, 0, 9, 9)), inner, path=box(30, 0, 99, 99))]
        for place, expected in (
            ((5, 5), [0, 0]), ((40, 40), [0, 1, 1, 0]), ((29, 40), [0, 0]), ((60, 40), [0, 0]),
            ((59, 59), [0, 1, 1, 0]), ((30, 5), [0, 1, 1, 0]),
        ):
            self.check_hit([items], place, view(), expected)

    def test_behind_a_use_the_numbers_go_on_in_the_symbol(self):
        symbols = [
            [shape(path=box(0, 0, 10, 10)), shape(path=box(5, 0, 10, 10))],
            [
                shape(path=box(0, 0, 300, 300)), group(use(0), moved(0, 100, 0), path=box(0, 0, 200, 200)),
                moved(0, 0, 100),
            ],
            [use(0), moved(1, 1000, 1000)],
        ]
        for symbol, place, expected in (
            (1, (2, 2), [1, 1, 0, 0]), (1, (7, 2), [1, 1, 0, 1]), (1, (102, 2), [1, 1, 1, 0]), (1, (2, 102), [1, 2, 0]),
            (1, (12, 102), [1, 2, 1]), (1, (250, 250), [1, 0]), (2, (2, 2), [2, 0, 0]),
            (2, (1002, 1002), [2, 1, 1, 0, 0]), (2, (1007, 1102), [2, 1, 2, 1]), (2, (1290, 1290), [2, 1, 0]),
            (2, (300, 300), []),
        ):
            self.check_hit(symbols, place, view(symbol), expected)

    def test_seventeen_numbers(self):
        item = shape(path=cells(0, 0))
        for _ in range(15):
            item = group(item, path=cells(0, 0))
        self.check_hit([[item]], (0, 0), view(), [0] * 17)
        symbols = [[shape(), shape(path=cells(0, 0))]] + [[use(0), use(k)] for k in range(15)]
        self.check_hit(symbols, (9, 9), view(15), [15] + [1] * 16)
        self.check_hit([[nested(15, shape(path=cells(0, 0)))]], (0, 0), view(), [])

    def test_through_the_views_map_and_in_no_window(self):
        symbols = [[shape(path=box(10, 10, 5, 5))]]
        moved_view = view(0, (2 * ONE, 0, 0, 3 * ONE, 1000, -1000), (0, 0, 0, 0))
        for place, expected in (
            ((1020, -970), [0, 0]), ((1029, -956), [0, 0]), ((1030, -956), []), ((1029, -955), []), ((1019, -970), []),
        ):
            self.check_hit(symbols, place, moved_view, expected)

    def test_places_far_outside(self):
        everywhere = view(0, (2 ** 63 - 1, 0, 0, 2 ** 63 - 1, 0, 0))
        symbols = [[shape(path=box(-1, -1, 2, 2)), shape(path=contour(-1, -1, step(5, 0, 0, 0, 2), step(3, 2)) + [0])]]
        edge = 1073741824
        for place, expected in (
            ((-edge, -edge), [0, 0]), ((-edge, 0), [0, 1]), ((-edge, edge - 2), [0, 1]), ((edge - 2, edge - 2), [0, 0]),
            ((edge - 1, 0), []), ((0, edge - 1), []),
            ((-edge - 1, 0), []), ((0, -edge - 1), []), ((FAR, 0), []), ((-FAR, 0), []), ((0, FAR), []),
            ((0, -FAR), []), ((FAR, FAR), []), ((-FAR, -FAR), []), ((FAR, -FAR), []), ((2 ** 31, 2 ** 31), []),
            ((-2 ** 63, 2 ** 63), []),
        ):
            self.check_hit(symbols, place, everywhere, expected)

    def test_a_view_that_is_not_good(self):
        data = book([shape(path=cells(0, 0))])
        for seen in (window(0, 0, 9, 8), window(0, 0, 8, -1), window(0, 0, 1, 1, 1), window(0, 4194304, 1, 1)):
            self.assertEqual(last(read(data), hit(0, 0, seen)), REFUSED)


class TestHitAndLayers(unittest.TestCase):
    def test_every_sample_is_hit_where_its_mask_says(self):
        items = [shape(path=box(0, 0, 160, 300)), group(shape(path=box(90, 90, 300, 80)), path=box(0, 0, 200, 256))]
        places = [(64 * i + 32, 64 * j + 32) for j in range(4) for i in range(4)]
        told = run(read(book(items)), [12, 0, 0, 11] + view(), *[hit(*place, view()) for place in places])
        masks = [told[1][1][0], told[1][1][9]]
        for k, answer in enumerate(told[2:]):
            top = [0, 1, 0] if masks[1] >> k & 1 else [0, 0] if masks[0] >> k & 1 else []
            self.assertEqual(answer[1], top, k)
        self.assertEqual(masks, [0x3333, 0x0660])


if __name__ == "__main__":
    unittest.main()
