"""What a path covers: its lines and curves, its winding, odd and not odd, and the samples of a cell."""

import unittest

from tests.helper import (
    SAME, ONE, book, box, cells, contour, hit, layers, polygon, read, run, shape, step, view,
)

SQUARE = ((0, 0), (100, 0), (100, 100), (0, 100))
BACK = ((0, 0), (0, 100), (100, 100), (100, 0))
# From (0, 0) with the control point (160, 0) to (160, 320), and with (0, 160), (160, 160) to (320, 0).
CURVE_OF_ONE = (
    (19, 1), (38, 5), (54, 11), (70, 20), (84, 31), (98, 45), (109, 61), (120, 80), (129, 101), (138, 125),
    (144, 151), (150, 180), (154, 211), (158, 245), (159, 281), (160, 320),
)
CURVE_OF_TWO = (
    (2, 28), (7, 53), (16, 73), (28, 90), (42, 103), (59, 113), (78, 118), (100, 120), (123, 118), (148, 113),
    (175, 103), (203, 90), (231, 73), (260, 53), (290, 28), (320, 0),
)


def covered(path, places, odd=0):
    """Which of these places the path covers: asked by as many calls as need be."""
    told = []
    for begin in range(0, len(places), 190):
        asked = [hit(*place, view()) for place in places[begin:begin + 190]]
        told += run(read(book([shape(odd=odd, path=path)])), *asked)[1:]
    return [answer[0] > 0 for answer in told]


class Covering(unittest.TestCase):
    def check_covering(self, path, inside, outside, odds=(0, 1)):
        for odd in odds:
            found = covered(path, inside + outside, odd)
            self.assertEqual(found, [True] * len(inside) + [False] * len(outside), (path, odd))

    def check_same(self, path, other, places, odds=(0, 1)):
        for odd in odds:
            found = covered(path, places, odd)
            others = [place for place, one, two in zip(places, found, covered(other, places, odd)) if one != two]
            self.assertEqual(others, [])
            self.assertEqual(len(set(found)), 2)


class TestLines(Covering):
    inside = [(0, 0), (99, 0), (0, 99), (99, 99), (50, 50)]
    outside = [(-1, 0), (0, -1), (100, 0), (99, 100), (100, 99), (0, 100), (-1, 99), (50, 100), (100, 50), (-1, 50)]

    def test_lines_that_rise_and_fall(self):
        self.check_covering(polygon(*SQUARE) + [0], self.inside, self.outside)
        self.check_covering(polygon(*BACK) + [0], self.inside, self.outside)

    def test_from_whatever_point_it_begins(self):
        for points in (SQUARE, BACK):
            for k in range(4):
                self.check_covering(polygon(*points[k:], *points[:k]) + [0], self.inside, self.outside)

    def test_closed_by_hand_or_by_itself(self):
        self.check_covering(polygon(*SQUARE, SQUARE[0]) + [0], self.inside, self.outside)

    def test_horizontal_lines_count_nothing(self):
        path = contour(0, 0, step(3, 100), step(3, -50), step(3, 200)) + [0]
        self.check_covering(path, [], [(0, 0), (50, 0), (100, 0), (-1, 0), (250, 0), (251, 0), (50, 1), (50, -1)])
        stairs = polygon((0, 0), (100, 0), (100, 40), (60, 40), (60, 100), (0, 100)) + [0]
        self.check_covering(stairs, [(80, 39), (59, 40), (59, 99)], [(60, 40), (80, 40), (61, 99), (59, 100)])

    def test_a_place_just_on_a_line_that_rises(self):
        # covered is what lies to the left of the line from (0, 0) to (90, 90), not what lies on it
        path = polygon((0, 0), (90, 90), (0, 90)) + [0]
        self.check_covering(path, [(9, 10), (88, 89), (0, 1)], [(10, 10), (0, 0), (11, 10), (89, 89), (-1, 1)])

    def test_a_place_just_on_a_line_that_falls(self):
        # what lies to the right of the line from (90, 90) to (0, 0), and what lies on it
        path = polygon((90, 90), (0, 0), (90, 0)) + [0]
        self.check_covering(path, [(10, 10), (0, 0), (89, 89), (11, 10)], [(9, 10), (90, 89), (88, 89), (90, 90)])

    def test_lines_the_other_way_down(self):
        # from (90, 0) to (0, 90): x + y = 90
        path = polygon((90, 0), (0, 90), (90, 90)) + [0]
        self.check_covering(path, [(80, 10), (89, 10), (1, 89), (89, 1)], [(79, 10), (0, 89), (90, 10), (90, 0)])
        path = polygon((0, 90), (90, 0), (0, 0)) + [0]
        self.check_covering(path, [(79, 10), (0, 89), (89, 0), (0, 0)], [(80, 10), (1, 89), (90, 0), (0, 90)])

    def test_between_units(self):
        # at the heights 1 and 2 the line from (0, 0) to (10, 3) is at 3 1/3 and 6 2/3
        path = polygon((0, 0), (10, 3), (20, 3), (20, 0)) + [0]
        self.check_covering(path, [(4, 1), (7, 2), (0, 0), (19, 2)], [(3, 1), (6, 2), (-1, 0), (20, 2), (10, 3)])
        path = polygon((0, 0), (-10, 3), (-20, 3), (-20, 0)) + [0]
        self.check_covering(path, [(-4, 1), (-7, 2), (-1, 0), (-20, 2)], [(-3, 1), (-6, 2), (0, 0), (-21, 2)])

    def test_at_the_height_of_a_corner(self):
        diamond = polygon((0, -50), (50, 0), (0, 50), (-50, 0)) + [0]
        self.check_covering(diamond, [(-50, 0), (49, 0), (0, 0), (0, -49), (0, 49)], [
            (-51, 0), (50, 0), (60, 0), (0, -50), (0, 50), (1, -50), (-60, 0),
        ])

    def test_a_single_line_there_and_back(self):
        places = [(0, 0), (50, 50), (0, 50), (50, 0), (99, 99), (-50, 50)]
        for end in ((100, 100), (0, 100), (100, 0), (-100, 100)):
            self.check_covering(polygon((0, 0), end) + [0], [], places)

    def test_the_closing_line(self):
        # the last point is (100, 100): from there it goes straight to (0, 0)
        path = polygon((0, 0), (100, 0), (100, 100)) + [0]
        self.check_covering(path, [(60, 50), (50, 50)], [(49, 50), (40, 50), (100, 50)])
        bent = polygon((0, 0), (0, 100), (30, 60)) + [0]
        self.check_covering(bent, [(0, 50), (24, 50), (0, 99), (29, 60)], [(25, 50), (30, 60), (30, 61), (-1, 50)])

    def test_the_points_farthest_out(self):
        path = polygon((-4194304, -4194304), (4194303, -4194304), (4194303, 4194303), (-4194304, 4194303)) + [0]
        self.check_covering(path, [(-4194304, -4194304), (4194302, 4194302), (0, 0)], [
            (-4194305, 0), (0, -4194305), (4194303, 0), (0, 4194303),
        ])


class TestWinding(Covering):
    far = [(150, 50), (-1, 50), (50, 150), (50, -1)]

    def test_once_around_either_way(self):
        self.check_covering(polygon(*SQUARE) + [0], [(50, 50)], self.far)
        self.check_covering(polygon(*BACK) + [0], [(50, 50)], self.far)

    def test_twice_around(self):
        for points in (SQUARE, BACK):
            one = polygon(*points, *points) + [0]
            two = polygon(*points) + polygon(*points) + [0]
            for path in (one, two):
                self.check_covering(path, [(50, 50)], self.far, odds=(0,))
                self.check_covering(path, [], [(50, 50)] + self.far, odds=(1,))

    def test_three_times_around(self):
        for points in (SQUARE, BACK):
            self.check_covering(polygon(*points) * 3 + [0], [(50, 50)], self.far)

    def test_there_and_back_again(self):
        self.check_covering(polygon(*SQUARE) + polygon(*BACK) + [0], [], [(50, 50)] + self.far)
        self.check_covering(polygon(*SQUARE) * 2 + polygon(*BACK) + [0], [(50, 50)], self.far)
        self.check_covering(polygon(*SQUARE) + polygon(*BACK) * 3 + [0], [(50, 50)], self.far, odds=(0,))
        self.check_covering(polygon(*SQUARE) + polygon(*BACK) * 3 + [0], [], [(50, 50)] + self.far, odds=(1,))

    def test_contours_that_overlap(self):
        path = polygon(*SQUARE) + polygon((50, 50), (150, 50), (150, 150), (50, 150)) + [0]
        self.check_covering(path, [(20, 20), (120, 120), (99, 49), (100, 50)], [(120, 20), (20, 120), (150, 120)])
        self.check_covering(path, [(50, 50), (75, 75), (99, 99)], [], odds=(0,))
        self.check_covering(path, [], [(50, 50), (75, 75), (99, 99)], odds=(1,))

    def test_a_hole(self):
        hole = polygon((20, 20), (20, 80), (80, 80), (80, 20))
        path = polygon(*SQUARE) + hole + [0]
        self.check_covering(path, [(19, 50), (80, 50), (50, 19), (50, 80)], [(20, 20), (50, 50), (79, 79)] + self.far)
        filled = polygon(*SQUARE) + polygon((20, 20), (80, 20), (80, 80), (20, 80)) + [0]
        self.check_covering(filled, [(50, 50), (10, 10)], self.far, odds=(0,))
        self.check_covering(filled, [(10, 10)], [(50, 50)] + self.far, odds=(1,))

    def test_contours_apart_from_one_another(self):
        path = polygon(*SQUARE) + polygon((200, 0), (200, 100), (300, 100), (300, 0))
        path += polygon((400, 0), (500, 0), (500, 9))
        self.check_covering(path + [0], [(50, 50), (250, 50), (490, 5)], [(150, 50), (350, 50), (300, 50), (501, 5)])

    def test_a_line_that_crosses_itself(self):
        # two triangles, the one wound this way, the other that way
        path = polygon((0, 0), (100, 100), (100, 0), (0, 100)) + [0]
        self.check_covering(path, [(10, 50), (90, 50), (49, 50)], [(50, 10), (50, 90), (101, 50), (-1, 50)])


class TestCurves(Covering):
    places = [(x, y) for y in range(-6, 330, 6) for x in range(-10, 340, 9)]

    def near(self, points):
        """Places at each point and around, and at the middle of each line."""
        found = []
        for (px, py), (qx, qy) in zip(points, points[1:] + points[:1]):
            for dx in (-1, 0, 1):
                found += [(px + dx, py + dy) for dy in (-1, 0, 1)] + [((px + qx) // 2 + dx, (py + qy) // 2)]
        return found

    def test_the_sixteen_points_of_one_control_point(self):
        path = contour(0, 0, step(5, 160, 0, 0, 320)) + [0]
        lines = ((0, 0),) + CURVE_OF_ONE
        self.check_same(path, polygon(*lines) + [0], self.places + self.near(lines))

    def test_the_sixteen_points_of_two_control_points(self):
        path = contour(0, 0, step(6, 0, 160, 160, 0, 160, -160)) + [0]
        lines = ((0, 0),) + CURVE_OF_TWO
        self.check_same(path, polygon(*lines) + [0], self.places + self.near(lines))

    def test_steps_of_all_kinds_behind_one_another(self):
        path = contour(0, 0, step(5, 160, 0, 0, 320), step(3, 30), step(6, 0, 160, 160, 0, 160, -160), step(4, -90))
        ring = [(0, 0), *CURVE_OF_ONE, (190, 320)]
        ring += [(190 + x, 320 + y) for x, y in CURVE_OF_TWO] + [(510, 230)]
        places = self.near(tuple(ring)) + [(x, y) for y in range(-9, 460, 18) for x in range(-10, 540, 27)]
        self.check_same(path + [0], polygon(*ring) + [0], places)

    def test_points_are_rounded_down_below_0_too(self):
        # every coordinate less by 1000: the same points, less by 1000
        path = contour(-1000, -1000, step(5, 160, 0, 0, 320)) + [0]
        ring = tuple((x - 1000, y - 1000) for x, y in ((0, 0),) + CURVE_OF_ONE)
        self.check_same(path, polygon(*ring) + [0], self.near(ring))
        # halves go up: 3.5 is 4, but -3.5 is -3
        path = contour(0, 0, step(5, -8, 0, 0, 16)) + [0]
        ring = (
            (0, 0), (-1, 0), (-2, 0), (-3, 1), (-3, 1), (-4, 2), (-5, 2), (-5, 3), (-6, 4), (-6, 5), (-7, 6), (-7, 8),
            (-7, 9), (-8, 11), (-8, 12), (-8, 14), (-8, 16),
        )
        places = [(x, y) for x in range(-10, 3) for y in range(-2, 18)]
        self.check_same(path, polygon(*[p for k, p in enumerate(ring) if p not in ring[:k]]) + [0], places)

    def test_just_below_a_half(self):
        # the first point's x is 127 parts of 256, or 2047 of 4096: it is 0
        self.check_covering(contour(0, 0, step(5, 0, 0, 127, 1600)) + [0], [(0, 5)], [(-1, 5), (1, 5)])
        self.check_covering(contour(0, 0, step(6, 0, 0, 0, 0, 2047, 24576)) + [0], [(0, 5)], [(-1, 5), (1, 5)])
        # a part more, and it is 1
        self.check_covering(contour(0, 0, step(5, 0, 0, 128, 1600)) + [0], [], [(0, 5), (-1, 5), (1, 5)])
        self.check_covering(contour(0, 0, step(6, 0, 0, 0, 0, 2048, 24576)) + [0], [], [(0, 5), (-1, 5), (1, 5)])

    def test_a_curve_that_leads_nowhere(self):
        for one in (step(5, 0, 0, 0, 0), step(6, 0, 0, 0, 0, 0, 0)):
            self.check_covering(contour(5, 5, one) + [0], [], [(5, 5), (4, 5), (6, 5), (5, 4), (5, 6)])
            path = contour(0, 0, step(3, 100), step(4, 100), one, step(3, -100)) + [0]
            self.check_covering(path, TestLines.inside, TestLines.outside)

    def test_a_curve_that_comes_back_to_its_beginning(self):
        path = contour(0, 0, step(6, 300, 0, -300, 300, 0, -300)) + [0]
        self.check_covering(path, [(60, 60), (90, 90)], [(-1, 60), (150, 150), (0, 0), (112, 20), (20, 130)])


class TestSamples(unittest.TestCase):
    def check_mask(self, path, cell, mask, matrix=SAME):
        answer = run(read(book([shape(path=path)])), layers(*cell, view(0, matrix)))[1]
        self.assertEqual(answer, (1, [mask, 1, 2, 3, 4, 0, 0, 1, 0], []) if mask else (0, [], []), (path, cell))

    def test_each_sample_by_itself(self):
        for j in range(4):
            for i in range(4):
                x, y = 64 * i + 32, 64 * j + 32
                self.check_mask(box(x, y, 1, 1), (0, 0), 1 << (4 * j + i))
                self.check_mask(box(x - 256, y + 512, 1, 1), (-1, 2), 1 << (4 * j + i))
                for dx, dy in ((1, 0), (-1, 0), (0, 1), (0, -1)):
                    self.check_mask(box(x + dx, y + dy, 1, 1), (0, 0), 0)

    def test_all_and_all_but_some(self):
        self.check_mask(cells(0, 0), (0, 0), 65535)
        self.check_mask(box(32, 32, 193, 193), (0, 0), 65535)
        self.check_mask(box(32, 32, 192, 192), (0, 0), 0x0777)
        self.check_mask(box(33, 33, 192, 192), (0, 0), 0xEEE0)
        self.check_mask(box(0, 0, 128, 256), (0, 0), 0x3333)
        self.check_mask(box(0, 128, 256, 128), (0, 0), 0xFF00)

    def test_just_the_cell(self):
        for cell in ((0, 0), (-1, -1), (3, -2), (-16384, 16382)):
            self.check_mask(cells(*cell), cell, 65535)
            for dx, dy in ((1, 0), (-1, 0), (0, 1), (0, -1), (1, 1), (-1, -1)):
                self.check_mask(cells(*cell), (cell[0] + dx, cell[1] + dy), 0)

    def test_a_slanted_line(self):
        self.check_mask(polygon((0, 0), (256, 256), (0, 256)) + [0], (0, 0), 0x7310)
        self.check_mask(polygon((0, 0), (256, 256), (256, 0)) + [0], (0, 0), 0x8CEF)
        self.check_mask(polygon((256, 0), (0, 256), (0, 0)) + [0], (0, 0), 0x0137)
        self.check_mask(polygon((256, 0), (0, 256), (256, 256)) + [0], (0, 0), 0xFEC8)

    def test_the_cells_at_the_edges(self):
        matrix = (2 ** 63 - 1, 0, 0, 2 ** 63 - 1, 0, 0)
        for cx in (-4194304, 0, 4194303):
            for cy in (-4194304, 0, 4194303):
                self.check_mask(box(-1, -1, 2, 2), (cx, cy), 65535, matrix)
        shifted = (ONE, 0, 0, ONE, 1073741824 - 512, -1073741824)
        self.check_mask(cells(1, 0), (4194303, -4194304), 65535, shifted)
        self.check_mask(cells(1, 0), (4194302, -4194304), 0, shifted)
        self.check_mask(cells(1, 0), (4194303, -4194303), 0, shifted)


if __name__ == "__main__":
    unittest.main()
