"""draw: each format with each mode, weights, several layers, windows, and what is refused."""

import unittest

from tests.helper import (
    OK, REFUSED, SAME, book, bounds, box, cells, draw, group, last, moved, polygon, read, run, shape, use, view,
)

FAR = 18446744073709551615
PAINT = (200, 100, 50)
# Of each format the channels' numbers before, and then, under a full cell of PAINT with alpha 255, by mode.
FULL = {
    0: ((90, 30, 200), ((200, 100, 50), (71, 12, 39), (200, 100, 200), (110, 70, 150))),
    1: ((10, 40, 20), ((24, 25, 6), (8, 16, 4), (24, 40, 20), (14, 15, 14))),
    2: ((500, 900, 100), ((802, 401, 201), (392, 353, 20), (802, 900, 201), (302, 499, 101))),
    3: ((200,), ((124,), (97,), (200,), (76,))),
}
# And under 9 samples of it with alpha 130.
PART = {
    0: ((122, 50, 157), (85, 25, 154), (122, 50, 200), (96, 41, 186)),
    1: ((14, 36, 16), (9, 33, 15), (14, 40, 20), (11, 33, 18)),
    2: ((587, 757, 129), (469, 743, 77), (587, 900, 129), (443, 785, 100)),
    3: ((178,), (170,), (200,), (164,)),
}
PLACES = {0: (16, 8, 0), 1: (11, 5, 0), 2: (20, 10, 0), 3: (0,)}
BITS = {0: 32, 1: 16, 2: 32, 3: 8}
GREATEST = {0: (255, 255, 255), 1: (31, 63, 31), 2: (1023, 1023, 1023), 3: (255,)}


def pixel(pixel_format, channels, rest=0):
    return rest + sum(value << place for value, place in zip(channels, PLACES[pixel_format]))


def samples(n):
    """A path that covers the first n samples of the cell (0, 0)."""
    contours = []
    for k in range(n):
        x, y = 64 * (k % 4) + 30, 64 * (k // 4) + 30
        contours += polygon((x, y), (x + 5, y), (x + 5, y + 5), (x, y + 5))
    return contours + [0]


def whole(mode=0, paint=PAINT, alpha=255, path=cells(0, 0)):
    return shape(mode=mode, paint=(*paint, alpha), path=path)


class Drawing(unittest.TestCase):
    def check_pixel(self, items, pixel_format, before, after):
        answer = last(read(book(items)), draw(pixel_format, view(), [before]))
        self.assertEqual(answer, (0, [after], []), (pixel_format, hex(before), hex(after)))


class TestFormatsAndModes(Drawing):
    def test_a_full_cell(self):
        for chosen, (before, after) in FULL.items():
            for mode in range(4):
                self.check_pixel([whole(mode)], chosen, pixel(chosen, before), pixel(chosen, after[mode]))

    def test_a_part_of_a_cell_and_of_alpha(self):
        for chosen, after in PART.items():
            before = FULL[chosen][0]
            for mode in range(4):
                item = whole(mode, alpha=130, path=samples(9))
                self.check_pixel([item], chosen, pixel(chosen, before), pixel(chosen, after[mode]))

    def test_the_other_bits_stay(self):
        for rest in (0xFF000000, 0xA5000000, 0x01000000):
            self.check_pixel([whole()], 0, pixel(0, (9, 9, 9), rest), pixel(0, PAINT, rest))
        for rest in (0xC0000000, 0x80000000, 0x40000000):
            self.check_pixel([whole()], 2, pixel(2, (9, 9, 9), rest), pixel(2, FULL[2][1][0], rest))
        self.check_pixel([], 0, 0xFFFFFFFF, 0xFFFFFFFF)
        self.check_pixel([whole(3, (255, 255, 255))], 0, 0xFFFFFFFF, 0xFF000000)
        self.check_pixel([whole(3, (255, 255, 255))], 2, 0xFFFFFFFF, 0xC0000000)

    def test_least_and_greatest(self):
        for chosen, greatest in GREATEST.items():
            high = pixel(chosen, greatest)
            white, black = (255, 255, 255), (0, 0, 0)
            for mode, paint, before, after in (
                (0, white, 0, high), (0, black, high, 0), (0, white, high, high), (0, black, 0, 0),
                (1, white, high, high), (1, white, 0, 0), (1, black, high, 0), (1, black, 0, 0),
                (2, white, 0, high), (2, black, high, high), (2, black, 0, 0), (2, white, high, high),
                (3, white, 0, high), (3, white, high, 0), (3, black, high, high), (3, black, 0, 0),
            ):
                self.check_pixel([whole(mode, paint)], chosen, before, after)

    def test_each_channel_by_itself(self):
        for chosen in (0, 1, 2):
            for k in range(3):
                paint = [0, 0, 0]
                paint[k] = 255
                channels = [0, 0, 0]
                channels[k] = GREATEST[chosen][k]
                self.check_pixel([whole(2, tuple(paint))], chosen, 0, pixel(chosen, channels))
                high = pixel(chosen, GREATEST[chosen])
                self.check_pixel([whole(0, tuple(paint))], chosen, high, pixel(chosen, channels))

    def test_colours_are_rounded_to_the_channel(self):
        # (c 31 + 127) / 255 and (c 63 + 127) / 255
        for c, five, six in (
            (0, 0, 0), (4, 0, 1), (5, 1, 1), (12, 1, 3), (13, 2, 3), (127, 15, 31), (128, 16, 32), (254, 31, 63),
            (37, 4, 9), (218, 27, 54),
        ):
            self.check_pixel([whole(paint=(c, c, c))], 1, 0, pixel(1, (five, six, five)))
        for c, ten in ((1, 4), (2, 8), (127, 509), (128, 514), (254, 1019)):
            self.check_pixel([whole(paint=(c, c, c))], 2, 0, pixel(2, (ten, ten, ten)))

    def test_grey(self):
        for paint, grey in (
            ((255, 0, 0), 77), ((0, 255, 0), 149), ((0, 0, 255), 29), ((255, 255, 255), 255), ((1, 1, 1), 1),
            ((2, 0, 0), 1), ((1, 0, 0), 0), ((0, 1, 0), 1), ((0, 0, 4), 0), ((0, 0, 5), 1), ((10, 20, 30), 18),
            ((0, 0, 75), 8), ((0, 0, 128), 15),
        ):
            self.check_pixel([whole(paint=paint)], 3, 200, grey)


class TestWeights(Drawing):
    def test_samples_from_1_to_16(self):
        greys = (16, 32, 48, 64, 80, 96, 112, 128, 143, 159, 175, 191, 207, 223, 239, 255)
        for n, grey in enumerate(greys, start=1):
            item = whole(paint=(255, 255, 255), path=samples(n))
            self.check_pixel([item], 3, 0, grey)
            self.check_pixel([item], 0, 0x12000000, 0x12000000 + grey * 0x10101)

    def test_alpha(self):
        for alpha, grey in ((0, 0), (1, 1), (2, 2), (127, 127), (128, 128), (254, 254), (255, 255)):
            self.check_pixel([whole(paint=(255, 255, 255), alpha=alpha)], 3, 0, grey)
        for alpha, grey in ((0, 100), (1, 100), (2, 101), (3, 101), (128, 150), (254, 200), (255, 200)):
            self.check_pixel([whole(paint=(200, 200, 200), alpha=alpha)], 3, 100, grey)
        for alpha, grey in ((0, 200), (1, 200), (2, 199), (3, 199), (128, 150), (254, 100), (255, 100)):
            self.check_pixel([whole(paint=(100, 100, 100), alpha=alpha)], 3, 200, grey)

    def test_one_sample_of_alpha_1(self):
        # v is 1: 255 parts of 4080 aren't enough to be rounded up, 2040 parts would be
        self.check_pixel([whole(paint=(255, 255, 255), alpha=1, path=samples(1))], 3, 0, 0)
        self.check_pixel([whole(paint=(255, 255, 255), alpha=8, path=samples(1))], 3, 0, 1)
        self.check_pixel([whole(paint=(255, 255, 255), alpha=7, path=samples(1))], 3, 0, 0)
        self.check_pixel([whole(paint=(255, 255, 255), alpha=1, path=samples(8))], 3, 0, 1)
        self.check_pixel([whole(paint=(255, 255, 255), alpha=1, path=samples(7))], 3, 0, 0)

    def test_alpha_0_leaves_all_as_it_is(self):
        for chosen in range(4):
            for mode in range(4):
                for before in (0, 2 ** BITS[chosen] - 1, pixel(chosen, FULL[chosen][0])):
                    self.check_pixel([whole(mode, alpha=0)], chosen, before, before)

    def test_a_group_takes_samples_away(self):
        item = group(whole(paint=(255, 255, 255)), path=samples(5))
        self.check_pixel([item], 3, 0, 80)


class TestSeveralLayers(Drawing):
    def test_one_onto_another(self):
        red, green = whole(paint=(255, 0, 0), alpha=128), whole(paint=(0, 255, 0), alpha=128)
        self.check_pixel([red, green], 0, 0, pixel(0, (64, 128, 0)))
        self.check_pixel([green, red], 0, 0, pixel(0, (128, 64, 0)))

    def test_each_is_rounded_before_the_next(self):
        faint = whole(paint=(255, 255, 255), alpha=1)
        self.check_pixel([faint] * 10, 3, 0, 10)
        self.check_pixel([whole(paint=(100, 100, 100), alpha=1)] * 10, 3, 0, 0)
        self.check_pixel([whole(paint=(40, 40, 40), alpha=60)] * 3, 3, 0, 22)

    def test_modes_see_what_the_layers_before_have_made(self):
        first = whole(paint=(200, 200, 200))
        for mode, grey in ((0, 50), (1, 39), (2, 200), (3, 150)):
            self.check_pixel([first, whole(mode, (50, 50, 50))], 3, 7, grey)
        self.check_pixel([whole(3, (255, 255, 255))] * 2, 3, 7, 7)
        self.check_pixel([whole(3, (255, 255, 255))] * 3, 3, 7, 248)

    def test_through_groups_and_uses(self):
        symbols = [
            [whole(paint=(255, 255, 255), path=samples(16))],
            [whole(paint=(10, 10, 10)), group(use(0), path=samples(4)), use(0), whole(3, (5, 5, 5), path=samples(8))],
        ]
        answer = last(read(book(*symbols)), draw(3, view(1), [99]))
        # 255 wherever the use covers; then half of it goes down to 250
        self.assertEqual(answer, (0, [253], []))

    def test_sixty_four_layers(self):
        self.check_pixel([whole(paint=(255, 255, 255), alpha=4)] * 64, 3, 0, 163)


class TestWindows(unittest.TestCase):
    picture = book(
        [whole(paint=(k, k, k), path=cells(k % 8, k // 8)) for k in range(1, 60)],
        [moved(0, -1024, -1024)],
    )

    def test_row_by_row(self):
        window = view(0, SAME, (0, 0, 8, 8))
        answer = last(read(self.picture), draw(3, window, [200] * 64))
        self.assertEqual(answer, (0, [200] + list(range(1, 60)) + [200] * 4, []))

    def test_wide_and_high_ones(self):
        for x, y, w, h in (
            (1, 2, 3, 2), (2, 1, 2, 3), (0, 0, 8, 1), (0, 0, 1, 8), (7, 6, 2, 2), (-1, -1, 3, 2), (5, 5, 1, 1),
        ):
            pixels = list(range(100, 100 + w * h))
            expected = []
            for j in range(h):
                for i in range(w):
                    k = 8 * (y + j) + x + i
                    drawn = 0 <= x + i < 8 and 1 <= k < 60
                    expected.append(k if drawn else pixels[w * j + i])
            answer = last(read(self.picture), draw(3, view(0, SAME, (x, y, w, h)), pixels))
            self.assertEqual(answer, (0, expected, []), (x, y, w, h))

    def test_the_same_in_every_window(self):
        one = polygon((-700, -300), (900, 500), (100, 800), (-50, -600)) + [0]
        two = polygon((0, 0), (500, 700), (-600, 80), (300, -900)) + [0]
        data = book([shape(0, 1, (200, 50, 9, 99), one), shape(1, 3, (5, 250, 90, 199), two)])
        pixels = [(97 * k + 12345) % 65536 for k in range(64)]
        whole_window = last(read(data), draw(1, view(0, SAME, (-4, -4, 8, 8)), pixels))[1]
        self.assertGreater(len(set(zip(whole_window, pixels))), 20)
        cell_by_cell = [
            draw(1, view(0, SAME, (-4 + k % 8, -4 + k // 8, 1, 1)), [pixels[k]]) for k in range(64)
        ]
        self.assertEqual([answer[1][0] for answer in run(read(data), *cell_by_cell)[1:]], whole_window)
        for x, y, w, h in ((0, 0, 4, 4), (3, 1, 5, 2), (2, 2, 1, 6)):
            places = [8 * (y + j) + x + i for j in range(h) for i in range(w)]
            part = draw(1, view(0, SAME, (x - 4, y - 4, w, h)), [pixels[k] for k in places])
            self.assertEqual(last(read(data), part)[1], [whole_window[k] for k in places])

    def test_below_0(self):
        window = view(1, SAME, (-4, -4, 8, 8))
        answer = last(read(self.picture), draw(3, window, [0] * 64))
        self.assertEqual(answer[1], [0] + list(range(1, 60)) + [0] * 4)

    def test_windows_of_no_cells(self):
        for window in ((0, 0, 0, 0), (0, 0, 0, 5), (0, 0, 8, 0), (4194304, -4194304, 0, 0)):
            answers = run(read(self.picture), draw(3, view(0, SAME, window), []), draw(3, view(0, SAME, window), [0]))
            self.assertEqual(answers[1:], [OK, REFUSED], window)

    def test_the_cells_at_the_edges(self):
        data = book([whole(paint=(9, 9, 9), path=box(-1, -1, 2, 2))])
        matrix = (2 ** 63 - 1, 0, 0, 2 ** 63 - 1, 0, 0)
        for x in (-4194304, 4194296):
            seen = view(0, matrix, (x, x, 8, 8))
            self.assertEqual(last(read(data), draw(3, seen, [0] * 64)), (0, [9] * 64, []))
            self.assertEqual(last(read(data), bounds(seen)), (1, [x, x, 8, 8], []))

    def test_drawing_changes_nothing(self):
        window = view(0, SAME, (0, 0, 8, 8))
        answers = run(read(self.picture), *[draw(3, window, [0] * 64)] * 3, [2])
        self.assertEqual(answers[1], answers[3])
        self.assertEqual(answers[-1], (0, [], self.picture))


class TestRefused(unittest.TestCase):
    def check_refused(self, chosen, seen, pixels):
        self.assertEqual(last(read(book([whole()])), draw(chosen, seen, pixels)), REFUSED, (chosen, seen, pixels))

    def test_format(self):
        for chosen in (4, 5, 255, FAR):
            self.check_refused(chosen, view(), [0])
            self.check_refused(chosen, view(0, SAME, (0, 0, 0, 0)), [])

    def test_too_few_and_too_many_pixels(self):
        for w, h in ((1, 1), (2, 3), (8, 7), (1, 8), (8, 1), (0, 3)):
            seen = view(0, SAME, (0, 0, w, h))
            for many in (w * h - 1, w * h + 1, 0 if w * h else 8, 64, w + h):
                if 0 <= many <= 64 and many != w * h:
                    self.check_refused(0, seen, [0] * many)
        self.check_refused(0, view(0, SAME, (0, 0, 8, 8)), [0] * 63)

    def test_a_pixel_just_too_large(self):
        for chosen, bits in BITS.items():
            greatest = 2 ** bits - 1
            answers = run(read(book([])), draw(chosen, view(), [greatest]))
            self.assertEqual(answers[1], (0, [greatest], []))
            for large in (greatest + 1, FAR):
                self.check_refused(chosen, view(), [large])
                for k in range(4):
                    self.check_refused(chosen, view(0, SAME, (0, 0, 2, 2)), [0] * k + [large] + [0] * (3 - k))

    def test_a_view_that_is_not_good(self):
        windows = [view(0, SAME, window) for window in ((0, 0, 9, 1), (0, 0, -1, -1))]
        for seen in (view(1), view(0, (2 ** 63,) + SAME[1:]), *windows):
            self.check_refused(0, seen, [0] * abs(seen[9] * seen[10]))


if __name__ == "__main__":
    unittest.main()
