"""Maps: each rounds down and holds each point, the innermost use's first, the view's last."""

import unittest

from tests.helper import (
    ONE, SAME, book, box, cells, contour, group, hit, layers, moved, polygon, read, run, shape, step, use, view,
)

LEAST, GREATEST = -2 ** 63, 2 ** 63 - 1
FARTHEST = 1073741823
EVERYWHERE = (GREATEST, 0, 0, GREATEST, 0, 0)


def wide(factor, shift=0):
    """A map of the x coordinate alone."""
    return (factor, 0, 0, ONE, shift, 0)


class Maps(unittest.TestCase):
    def check_box(self, symbols, seen, x, y, end_x, end_y):
        """What is seen covers just the places from (x, y) up to, not at, end_x and end_y: asked at its corners."""
        inside = [(x, y), (end_x - 1, y), (x, end_y - 1), (end_x - 1, end_y - 1)]
        outside = [(x - 1, y), (x, y - 1), (end_x, y), (end_x - 1, end_y), (x - 1, end_y - 1), (end_x, end_y - 1)]
        told = run(read(book(*symbols)), *[hit(*place, seen) for place in inside + outside])
        covered = [answer[0] > 0 for answer in told[1:]]
        self.assertEqual(covered, [True] * 4 + [False] * 6)

    def check_x(self, x, maps, mapped):
        """The point's x through maps that are no view's, the innermost first, and through the view's."""
        if mapped > 0:
            path = box(x - 1000, 0, 1000, 9)
            self.check_edge(path, maps, mapped - 1, mapped)
        path = box(x, 0, 1000, 9)
        self.check_edge(path, maps, mapped, mapped - 1)

    def check_edge(self, path, maps, covered, uncovered):
        symbols = [[shape(path=path)]] + [[use(k, *matrix)] for k, matrix in enumerate(maps[:-1])]
        seen = view(len(symbols) - 1, maps[-1])
        told = run(read(book(*symbols)), hit(covered, 0, seen), hit(uncovered, 0, seen))
        self.assertEqual([answer[0] > 0 for answer in told], [False, True, False], (maps, covered))


class TestRounding(Maps):
    def test_halves_go_up(self):
        for x, mapped in ((0, 0), (1, 1), (2, 1), (3, 2), (5, 3), (-1, 0), (-2, -1), (-3, -1), (-5, -2)):
            self.check_x(x, [wide(ONE // 2)], mapped)

    def test_just_below_and_above_a_half(self):
        for x, factor, mapped in (
            (1, 2 ** 31 - 1, 0), (1, 2 ** 31, 1), (1, 2 ** 31 + 1, 1),
            (-1, 2 ** 31 - 1, 0), (-1, 2 ** 31, 0), (-1, 2 ** 31 + 1, -1),
            (1, -2 ** 31 - 1, -1), (1, -2 ** 31, 0), (-1, -2 ** 31, 1), (-1, -2 ** 31 + 1, 0),
        ):
            path = box(x, 0, 4000 if factor > 0 else -4000, 9)
            self.check_edge(path, [wide(factor)], mapped, mapped - 1)

    def test_a_use_rounds_as_a_view_does(self):
        for x, mapped in ((1, 1), (3, 2), (-1, 0), (-3, -1)):
            self.check_x(x, [wide(ONE // 2), SAME], mapped)

    def test_each_map_rounds_for_itself(self):
        half, double = wide(ONE // 2), wide(2 * ONE)
        self.check_x(1, [half, double], 2)
        self.check_x(1, [double, half], 1)
        self.check_x(3, [half, half, half], 1)
        self.check_x(5, [half, half, half], 1)
        self.check_x(9, [half, half, half], 2)
        self.check_x(-3, [half, half], 0)
        self.check_x(-5, [half, half, double, double], -4)
        self.check_x(10, [wide(ONE // 3)] * 3, 0)
        self.check_x(14, [wide(ONE // 3)] * 3, 1)

    def test_the_innermost_first_and_the_views_last(self):
        one, three, half = wide(ONE, 1), wide(3 * ONE), wide(ONE // 2)
        self.check_x(10, [one, three, half], 17)
        self.check_x(10, [three, one, half], 16)
        self.check_x(10, [half, one, three], 18)
        self.check_x(10, [half, three, one], 16)
        self.check_x(11, [one, half, three], 18)
        self.check_x(11, [three, half, one], 18)

    def test_through_fifteen_uses(self):
        maps = [wide(ONE, k) if k % 2 else wide(ONE // 2) for k in range(15)] + [wide(2 * ONE)]
        x = 1001
        for k in range(15):
            x = x + k if k % 2 else (x + 1) // 2
        self.check_x(1001, maps, 2 * x)


class TestAllSix(Maps):
    def test_moved(self):
        self.check_box([[shape(path=box(0, 0, 7, 5))]], view(0, (ONE, 0, 0, ONE, -30, 40)), -30, 40, -23, 45)
        self.check_box([[shape(path=box(3, 4, 7, 5))], [moved(0, 100, -200)]], view(1), 103, -196, 110, -191)

    def test_which_factor_is_which(self):
        # x' = e - y, y' = f + x
        turned = (0, ONE, -ONE, 0, 50, -60)
        self.check_box([[shape(path=box(10, 20, 300, 100))]], view(0, turned), -70, -50, 30, 250)
        self.check_box([[shape(path=box(10, 20, 300, 100))], [use(0, *turned)]], view(1), -70, -50, 30, 250)
        # x' = 2 y, y' = 3 x
        crossed = (0, 3 * ONE, 2 * ONE, 0, 0, 0)
        self.check_box([[shape(path=box(10, 20, 30, 5))]], view(0, crossed), 40, 30, 50, 120)
        # x' = -2 x, y' = 4 y
        self.check_box([[shape(path=box(10, 20, 30, 5))]], view(0, (-2 * ONE, 0, 0, 4 * ONE, 0, 0)), -80, 80, -20, 100)

    def test_both_parts_are_added_before_rounding(self):
        # the corner (1, 1) goes to half a unit, which is 1, or to just less, which is 0
        fourth = ONE // 4
        for other, mapped in ((fourth, 1), (fourth - 1, 0)):
            across = view(0, (fourth, 0, other, ONE, 0, 0))
            self.check_hits(polygon((1, 1), (8001, 1), (1, 4001)), across, [(mapped, 1)], [(mapped - 1, 1)])
            down = view(0, (ONE, other, 0, fourth, 0, 0))
            self.check_hits(polygon((1, 1), (1, 8001), (4001, 1)), down, [(1, mapped + 1)], [(1, mapped)])

    def check_hits(self, ring, seen, inside, outside):
        told = run(read(book([shape(path=ring + [0])])), *[hit(*place, seen) for place in inside + outside])
        covered = [answer[0] > 0 for answer in told[1:]]
        self.assertEqual(covered, [True] * len(inside) + [False] * len(outside), seen)


class TestEdges(Maps):
    def test_factors_at_their_least_and_greatest(self):
        around = [[shape(path=box(-1, -1, 2, 2))]]
        least = (LEAST, 0, 0, LEAST, 0, 0)
        for matrix in (EVERYWHERE, least):
            self.check_box(around, view(0, matrix), -FARTHEST - 1, -FARTHEST - 1, FARTHEST, FARTHEST)
        self.check_box([[shape(path=box(0, 0, 1, 1))]], view(0, EVERYWHERE), 0, 0, FARTHEST, FARTHEST)
        self.check_box([[shape(path=box(0, 0, 1, 1))]], view(0, least), -FARTHEST - 1, -FARTHEST - 1, 0, 0)
        self.check_box([[shape(path=box(0, 0, 1, 1))], [use(0, *least)]], view(1), -FARTHEST - 1, -FARTHEST - 1, 0, 0)
        crossed = (0, LEAST, GREATEST, 0, 0, 0)
        self.check_box([[shape(path=box(0, 0, 1, 1))], [use(0, *crossed)]], view(1), 0, -FARTHEST - 1, FARTHEST, 0)

    def test_great_factors_that_cancel_out(self):
        # x' = ((2^63 - 1) x - 2^63 y + 2^31) / 2^32 is 0 where x = y; y' = y
        matrix = (GREATEST, 0, LEAST, ONE, 7, 0)
        path = polygon((0, 0), (4194303, 4194303), (4194303, 4194302)) + [0]
        seen = view(0, matrix)
        told = run(read(book([shape(path=path)])), hit(7, 4194301, seen), hit(6, 4194301, seen))
        self.assertEqual([answer[0] for answer in told[1:]], [2, 0])

    def test_shifts_at_their_least_and_greatest(self):
        # -5000 is moved past the greatest, 5000 too: nothing is left between them
        path = box(-5000, -5000, 10000, 10000)
        for e, f in ((2 ** 31 - 1, 0), (-2 ** 31, 0), (0, 2 ** 31 - 1), (0, -2 ** 31)):
            matrix = (ONE, 0, 0, ONE, e, f)
            held = view(0, matrix)
            places = [(sx, sy) for sx in (-FARTHEST - 1, 0, FARTHEST) for sy in (-FARTHEST - 1, 0, FARTHEST)]
            told = run(read(book([shape(path=path)])), *[hit(*place, held) for place in places])
            self.assertEqual([answer[0] for answer in told], [0] * 10)

    def test_held_just_there(self):
        for at, held in ((FARTHEST - 1, FARTHEST - 1), (FARTHEST, FARTHEST), (FARTHEST + 1, FARTHEST)):
            self.check_box([[shape(path=box(0, 0, 50, 9))]], view(0, wide(ONE, at - 50)), at - 50, 0, held, 9)
        for at, held in ((-FARTHEST, -FARTHEST), (-FARTHEST - 1, -FARTHEST - 1), (-FARTHEST - 2, -FARTHEST - 1)):
            self.check_box([[shape(path=box(0, 0, 50, 9))]], view(0, wide(ONE, at)), held, 0, at + 50, 9)
        down = (ONE, 0, 0, ONE, 0, FARTHEST - 20)
        self.check_box([[shape(path=box(0, 0, 50, 90))]], view(0, down), 0, FARTHEST - 20, 50, FARTHEST)
        up = (ONE, 0, 0, ONE, 0, -FARTHEST - 1 - 20)
        self.check_box([[shape(path=box(0, 0, 50, 90))]], view(0, up), 0, -FARTHEST - 1, 50, -FARTHEST - 1 + 70)

    def test_each_map_holds_for_itself(self):
        there, back = FARTHEST - 100, 100 - FARTHEST
        symbols = [[shape(path=box(0, 0, 250, 250))], [moved(0, there, there)]]
        self.check_box(symbols, view(1, (ONE, 0, 0, ONE, back, back)), 0, 0, 100, 100)
        there, back = -FARTHEST - 1 - 100, FARTHEST + 1 + 100
        symbols = [[shape(path=box(0, 0, 250, 250))], [moved(0, there, there)], [moved(1, back, back)]]
        self.check_box(symbols, view(2), 100, 100, 250, 250)


class TestGroupsAndCurves(unittest.TestCase):
    def test_a_groups_path_goes_through_the_uses_around_it_alone(self):
        symbols = [
            [shape(path=cells(0, 0))],
            [group(moved(0, 256, 0), path=cells(0, 0)), group(moved(0, 256, 0), path=cells(1, 0))],
            [moved(1, 0, 512)],
        ]
        full = [65535, 1, 2, 3, 4, 0, 0]
        told = run(
            read(book(*symbols)), layers(0, 0, view(1)), layers(1, 0, view(1)), layers(1, 2, view(2)),
            layers(0, 2, view(2)), layers(1, 0, view(2)), layers(4, 2, view(2, (ONE, 0, 0, ONE, 768, 0))),
        )
        self.assertEqual(told[1:], [
            (0, [], []), (1, full + [3, 1], []), (1, full + [4, 1], []), (0, [], []), (0, [], []),
            (1, full + [4, 1], []),
        ])

    def test_a_groups_path_is_rounded_by_each_map_too(self):
        half = (ONE // 2, 0, 0, ONE, 0, 0)
        double = (2 * ONE, 0, 0, ONE, 0, 0)
        symbols = [[group(shape(path=box(-100, 0, 300, 9)), path=box(1, 0, 2, 9))], [use(0, *half)], [use(1, *double)]]
        told = run(read(book(*symbols)), *[hit(sx, 0, view(2)) for sx in (1, 2, 3, 4)])
        self.assertEqual([answer[0] for answer in told[1:]], [0, 5, 5, 0])

    def test_curves_are_made_of_points_that_have_gone_through_the_maps(self):
        curve = shape(path=contour(0, 0, step(5, 0, 16, 16, 0)) + [0])
        hundred = (100 * ONE, 0, 0, 100 * ONE, 0, 0)
        seen = view(0, hundred)
        told = run(
            read(book([curve])),
            # the first of its points is (6, 194): that of the small curve times 100 would be (0, 200)
            hit(5, 193, seen), hit(6, 193, seen), hit(12, 193, seen), hit(3, 97, seen), hit(2, 97, seen),
        )
        self.assertEqual([answer[0] for answer in told[1:]], [0, 2, 2, 2, 0])


if __name__ == "__main__":
    unittest.main()
