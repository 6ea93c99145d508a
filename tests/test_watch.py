"""watch and unwatch: what read, put, take and paint tell of the views that are watched."""

import unittest

from tests.helper import (
    ADD, OK, ONE, REFUSED, SAME, WRITE, book, box, cells, count, draw, group, last, moved, nested, paint, polygon, put,
    read, run, shape, take, unwatch, use, view, watch,
)

FAR = 18446744073709551615
WINDOW = (0, 0, 8, 8)
WHOLE = view(0, SAME, WINDOW)


def at(x, y, w=1, h=1, **kinds):
    return shape(path=cells(x, y, w, h), **kinds)


class Watching(unittest.TestCase):
    def check_told(self, symbols, views, call, told, number=None):
        """The views are watched from 0 on; the call tells these numbers."""
        calls = [read(book(*symbols))] + [watch(k, seen) for k, seen in enumerate(views)] + [call]
        answers = run(*calls)
        self.assertEqual(answers[:-1], [OK] * (len(views) + 1))
        self.assertGreaterEqual(answers[-1][0], 0)
        self.assertEqual(answers[-1][1:], (told, []), (call, told))
        if number is not None:
            self.assertEqual(answers[-1][0], number)


class TestWatchAndUnwatch(unittest.TestCase):
    def test_k(self):
        for k in (0, 1, 2, 3):
            self.assertEqual(run(watch(k, WHOLE), unwatch(k)), [OK, OK])
        for k in (4, 5, 255, FAR):
            self.assertEqual(run(watch(k, WHOLE), unwatch(k)), [REFUSED, REFUSED])

    def test_k_3_is_watched_and_k_4_is_not(self):
        answers = run(ADD, watch(3, WHOLE), watch(4, WHOLE), put([0, 0], at(1, 1)), unwatch(4), put([0, 0], at(2, 1)))
        self.assertEqual(answers[1:], [OK, REFUSED, (0, [3, 1, 1, 1, 1], []), REFUSED, (0, [3, 2, 1, 1, 1], [])])

    def test_a_view_may_be_good_or_not(self):
        for seen in (WHOLE, view(255), view(0, SAME, (0, 0, 9, 9)), view(FAR, (FAR,) * 6, (FAR, -FAR, FAR, -FAR))):
            self.assertEqual(run(watch(0, seen), watch(3, seen), unwatch(0)), [OK, OK, OK])

    def test_what_is_not_watched_is_unwatched_too(self):
        self.assertEqual(run(unwatch(0), unwatch(3), watch(1, WHOLE), unwatch(1), unwatch(1)), [OK] * 5)

    def test_not_any_more(self):
        answers = run(
            ADD, watch(0, WHOLE), watch(1, WHOLE), put([0, 0], at(0, 0)), unwatch(0), put([0, 0], at(0, 0)), unwatch(1),
            put([0, 0], at(0, 0)), watch(0, WHOLE), put([0, 0], at(0, 0)),
        )
        told = [answer[1] for answer in answers]
        self.assertEqual(told[3::2], [[0, 0, 0, 1, 1, 1, 0, 0, 1, 1], [1, 0, 0, 1, 1], [], [0, 0, 0, 1, 1]])

    def test_set_anew(self):
        answers = run(
            ADD, watch(0, WHOLE), watch(0, view(0, SAME, (4, 4, 4, 4))), put([0, 0], at(0, 0)),
            put([0, 0], at(5, 6, 9, 9)), watch(0, view(0, SAME, (0, 0, 1, 1))), put([0, 0], at(5, 5)),
            put([0, 0], at(0, 0, 2, 2)), watch(0, view(9)), put([0, 0], at(0, 0)),
        )
        told = [answer[1] for answer in answers]
        self.assertEqual(told[3:], [[], [0, 5, 6, 3, 2], [], [], [0, 0, 0, 1, 1], [], []])

    def test_setting_a_view_tells_nothing_itself(self):
        self.assertEqual(last(read(book([at(0, 0)])), watch(0, WHOLE)), OK)
        self.assertEqual(last(read(book([at(0, 0)])), watch(0, WHOLE), unwatch(0)), OK)


class TestBoxes(Watching):
    def test_one_cell(self):
        for x, y in ((0, 0), (7, 7), (7, 0), (0, 7), (3, 4)):
            self.check_told([[]], [WHOLE], put([0, 0], at(x, y)), [0, x, y, 1, 1], 0)
            self.check_told([[at(x, y)]], [WHOLE], take(0, 0), [0, x, y, 1, 1], 1)
            self.check_told([[at(x, y)]], [WHOLE], paint([0, 0], 9, 9, 9, 9, 0), [0, x, y, 1, 1], 1)
            self.check_told([[at(x, y)]], [WHOLE], read(book([])), [0, x, y, 1, 1], 0)

    def test_the_whole_window(self):
        for window in (WINDOW, (2, 3, 4, 5), (-5, -6, 8, 3), (1, 1, 1, 1)):
            seen = view(0, SAME, window)
            big = at(-20, -20, 60, 60)
            self.check_told([[]], [seen], put([0, 0], big), [0, *window])
            self.check_told([[big]], [seen], take(0, 0), [0, *window])
            self.check_told([[big]], [seen], read(book([at(-20, -20, 60, 60, mode=1)])), [0, *window])

    def test_outside_the_window(self):
        for x, y in ((8, 0), (0, 8), (-1, 0), (0, -1)):
            self.check_told([[]], [WHOLE], put([0, 0], at(x, y)), [])

    def test_the_least_box_of_cells_apart(self):
        before, after = [at(1, 1), at(6, 2)], [at(1, 1), at(2, 5)]
        self.check_told([before], [WHOLE], read(book(after)), [0, 2, 2, 5, 4])
        self.check_told([[]], [WHOLE], read(book([at(7, 0), at(0, 7)])), [0, 0, 0, 8, 8])

    def test_only_cells_that_are_others_count(self):
        # the cell between is covered before and then
        self.check_told([[at(0, 0, 3, 1)]], [WHOLE], read(book([at(1, 0, 3, 1)])), [0, 0, 0, 4, 1])
        self.check_told([[at(0, 0, 3, 3)]], [WHOLE], read(book([at(0, 0, 3, 4)])), [0, 0, 3, 3, 1])
        self.check_told([[at(2, 2, 3, 3)]], [WHOLE], read(book([at(2, 2, 2, 3)])), [0, 4, 2, 1, 3])

    def test_one_sample_is_enough(self):
        before, after = shape(path=box(0, 0, 300, 300)), shape(path=box(0, 0, 300, 225))
        self.check_told([[before]], [WHOLE], read(book([after])), [0, 0, 1, 2, 1])
        self.check_told([[]], [WHOLE], put([0, 0], shape(path=box(256 + 96, 512 + 32, 1, 1))), [0, 1, 2, 1, 1])
        self.check_told([[]], [WHOLE], put([0, 0], shape(path=box(33, 33, 60, 60))), [])

    def test_windows_of_no_cells(self):
        for window in ((0, 0, 0, 0), (0, 0, 0, 8), (0, 0, 8, 0)):
            self.check_told([[]], [view(0, SAME, window)], put([0, 0], at(0, 0, 8, 8)), [])

    def test_through_the_views_map(self):
        seen = view(0, (2 * ONE, 0, 0, ONE, -256, 512), WINDOW)
        self.check_told([[]], [seen], put([0, 0], at(1, 0)), [0, 1, 2, 2, 1])


class TestWhatIsOther(Watching):
    def test_each_part_of_a_layer(self):
        plain = at(1, 1, paint=(1, 2, 3, 4))
        for other in (
            at(1, 1, paint=(9, 2, 3, 4)), at(1, 1, paint=(1, 9, 3, 4)), at(1, 1, paint=(1, 2, 9, 4)),
            at(1, 1, paint=(1, 2, 3, 9)), at(1, 1, mode=2), at(1, 1, odd=1), shape(path=box(256, 256, 224, 256)),
        ):
            self.check_told([[plain]], [WHOLE], read(book([other])), [0, 1, 1, 1, 1])

    def test_the_order_of_layers(self):
        one, two = at(0, 0, 3, 1), at(1, 0, 3, 1, mode=1)
        self.check_told([[one, two]], [WHOLE], read(book([two, one])), [0, 1, 0, 2, 1])

    def test_one_more_of_the_same(self):
        self.check_told([[at(0, 0)]], [WHOLE], put([0, 0], at(0, 0)), [0, 0, 0, 1, 1])
        self.check_told([[at(0, 0)] * 3], [WHOLE], take(0, 1), [0, 0, 0, 1, 1])
        self.check_told([[at(0, 0), at(2, 0), at(0, 0)]], [WHOLE], take(0, 2), [0, 0, 0, 1, 1])

    def test_alpha_0_is_a_layer_too(self):
        self.check_told([[]], [WHOLE], put([0, 0], at(0, 0, paint=(0, 0, 0, 0))), [0, 0, 0, 1, 1])

    def test_no_layer_is_another(self):
        items = [at(0, 0), at(1, 1), at(20, 20)]
        self.check_told([items], [WHOLE], put([0, 1], at(30, 30)), [])
        self.check_told([items], [WHOLE], put([0, 1], group(path=cells(0, 0))), [])
        self.check_told([items], [WHOLE], put([0, 1], group(at(0, 0), path=cells(1, 1))), [])
        self.check_told([items], [WHOLE], take(0, 2), [], 1)
        self.check_told([items], [WHOLE], paint([0, 2], 9, 9, 9, 9, 3), [], 1)
        self.check_told([items], [WHOLE], paint([0, 0], 1, 2, 3, 4, 0), [], 1)
        self.check_told([items], [WHOLE], read(book(items)), [], 0)

    def test_only_the_order_number_is_another(self):
        away = at(30, 30)
        self.check_told([[at(0, 0)]], [WHOLE], put([0, 0], away), [])
        self.check_told([[away, at(0, 0)]], [WHOLE], take(0, 0), [])
        self.check_told([[at(0, 0), at(5, 5)]], [WHOLE], read(book([at(5, 5), at(0, 0)])), [])

    def test_only_deep_is_another(self):
        self.check_told([[at(0, 0)]], [WHOLE], read(book([group(at(0, 0), path=cells(0, 0))])), [])
        symbols = [[at(0, 0)], [use(0)]]
        self.check_told(symbols, [view(1, SAME, WINDOW)], read(book([], [at(0, 0)])), [])

    def test_the_same_masks_by_another_path(self):
        self.check_told([[at(0, 0)]], [WHOLE], read(book([shape(path=box(1, 1, 230, 230))])), [])
        back = shape(path=polygon((0, 0), (0, 256), (256, 256), (256, 0)) + [0])
        self.check_told([[at(0, 0)]], [WHOLE], read(book([back])), [])

    def test_a_group_that_cuts(self):
        inner = at(0, 0, 4, 4)
        before, after = group(inner, path=cells(0, 0, 4, 4)), group(inner, path=cells(0, 0, 3, 2))
        self.check_told([[before]], [WHOLE], read(book([after])), [0, 0, 0, 4, 4])
        self.check_told([[inner, group(path=cells(1, 1, 1, 2))]], [WHOLE], put([0, 1, 0], inner), [0, 1, 1, 1, 2])
        self.check_told([[group(inner, inner, path=cells(1, 1, 2, 1))]], [WHOLE], take(0, 0, 1), [0, 1, 1, 2, 1])
        small = group(inner, path=cells(1, 1, 2, 1))
        self.check_told([[small]], [WHOLE], paint([0, 0, 0], 0, 0, 0, 0, 0), [0, 1, 1, 2, 1])
        self.check_told([[small]], [WHOLE], take(0, 0), [0, 1, 1, 2, 1])

    def test_through_uses(self):
        symbols = [[at(0, 0)], [moved(0, 256, 0), moved(0, 768, 512)], [moved(1, 0, 256)]]
        views = [view(k, SAME, WINDOW) for k in range(3)]
        call = paint([0, 0], 9, 9, 9, 9, 1)
        self.check_told(symbols, views, call, [0, 0, 0, 1, 1, 1, 1, 0, 3, 3, 2, 1, 1, 3, 3])
        self.check_told(symbols, views, take(1, 0), [1, 1, 0, 1, 1, 2, 1, 1, 1, 1])
        self.check_told(symbols, views, put([2, 1], use(0)), [2, 0, 0, 1, 1])


class TestSeveralViews(Watching):
    def test_told_from_0_on(self):
        views = [view(0, SAME, (0, 0, 4, 4)), view(0, SAME, (4, 4, 4, 4)), view(1, SAME, WINDOW), WHOLE]
        self.check_told([[], []], views, put([0, 0], at(3, 3, 2, 2)), [0, 3, 3, 1, 1, 1, 4, 4, 1, 1, 3, 3, 3, 2, 2])
        self.check_told([[], []], views, put([0, 0], at(5, 5)), [1, 5, 5, 1, 1, 3, 5, 5, 1, 1])
        self.check_told([[], []], views, put([1, 0], at(5, 5)), [2, 5, 5, 1, 1])
        self.check_told([[], []], views, put([0, 0], at(50, 50)), [])

    def test_in_whatever_order_they_were_set(self):
        answers = run(ADD, watch(3, WHOLE), watch(1, WHOLE), watch(0, WHOLE), watch(2, WHOLE), put([0, 0], at(0, 0)))
        self.assertEqual(answers[-1][1], [z for k in range(4) for z in (k, 0, 0, 1, 1)])


class TestGoodBeforeAndThen(unittest.TestCase):
    def test_it_becomes_good_by_a_read(self):
        answers = run(
            watch(0, WHOLE), read(book([at(0, 0)])), read(book([at(1, 0)])), read(book()), read(book([at(2, 0)])),
            put([0, 0], at(3, 0)),
        )
        self.assertEqual([answer[1] for answer in answers[1:]], [[], [0, 0, 0, 2, 1], [], [], [0, 3, 0, 1, 1]])

    def test_it_becomes_good_by_add(self):
        answers = run(watch(0, view(1, SAME, WINDOW)), ADD, put([0, 0], at(0, 0)), ADD, put([1, 0], use(0)), take(0, 0))
        self.assertEqual([answer[1] for answer in answers[1:]], [[], [], [], [0, 0, 0, 1, 1], [0, 0, 0, 1, 1]])

    def test_it_was_good_and_is_not_any_more(self):
        views = [watch(0, view(0, SAME, WINDOW)), watch(1, view(1, SAME, WINDOW))]
        before = read(book([at(0, 0)], [at(1, 1)]))
        answers = run(before, *views, read(book([])), take(0, 0), read(book([], [at(0, 0)])))
        self.assertEqual([answer[1] for answer in answers[3:]], [[0, 0, 0, 1, 1], [], []])

    def test_never_good(self):
        wrong = [view(0, SAME, window) for window in ((0, 0, 9, 8), (-4194305, 0, 1, 1))]
        wrong += [view(0, (2 ** 63,) + SAME[1:], WINDOW), view(5)]
        answers = run(ADD, *[watch(k, seen) for k, seen in enumerate(wrong)], put([0, 0], at(0, 0)), take(0, 0))
        self.assertEqual(answers[5:], [OK, (1, [], [])])

    def test_what_is_watched_stays_watched(self):
        answers = run(watch(2, WHOLE), read(book()), ADD, put([0, 0], at(0, 0)), read(book([])), put([0, 0], at(0, 0)))
        self.assertEqual([answer[1] for answer in answers[3:]], [[2, 0, 0, 1, 1]] * 3)


class TestNothingTold(unittest.TestCase):
    def test_add_count_and_the_like(self):
        answers = run(read(book([at(0, 0)])), watch(0, WHOLE), ADD, count(0), WRITE, draw(3, view(), [7]))
        self.assertEqual([answer[1] for answer in answers], [[], [], [], [], [], [7]])

    def test_refusals(self):
        data = book([at(0, 0), group(path=cells(0, 0, 8, 8))])
        answers = run(
            read(data), watch(0, WHOLE), put([0, 9], at(1, 1)), put([0, 0], [9]), put([0, 0], nested(17)), read([0]),
            read(book([nested(17)])), read([0] * 4097), take(0, 9), take(0), paint([0, 0], 256, 0, 0, 0, 0),
            paint([0, 0], 0, 0, 0, 0, 4), paint([0, 1], 0, 0, 0, 0, 0), paint([0, 1], 0, 0, 0, 0, 4), WRITE,
        )
        first, past = (-2, [0], []), (-3, [], [])
        told = [REFUSED, first, past, first, past, REFUSED, OK, OK, REFUSED, REFUSED, OK, REFUSED]
        self.assertEqual(answers[2:], told + [(0, [], data)])

    def test_nothing_is_watched(self):
        answers = run(read(book([at(0, 0)])), put([0, 0], at(1, 1)), paint([0, 0], 0, 0, 0, 0, 0), take(0, 0))
        self.assertEqual(answers, [OK, OK, (1, [], []), (1, [], [])])


class TestDrawnAnew(unittest.TestCase):
    def test_just_the_box_makes_the_picture(self):
        slanted = polygon((100, 50), (1900, 700), (600, 1800), (900, 300)) + [0]
        symbols = [[shape(paint=(200, 90, 10, 180), path=slanted), at(2, 2, 3, 3, mode=3, paint=(9, 99, 200, 255))]]
        calls = [
            put([0, 1], shape(1, 1, (50, 150, 250, 120), polygon((300, 900), (1500, 400), (1400, 1600)) + [0])),
            paint([0, 0], 1, 2, 3, 255, 2), take(0, 1), put([0, 0], group(at(0, 0, 8, 8), path=slanted)),
            put([0, 0, 1], at(4, 4, paint=(255, 255, 255, 255))), take(0, 2), take(0, 0, 0),
            read(book([shape(paint=(1, 2, 3, 255), path=slanted)])),
        ]
        for length in range(1, len(calls) + 1):
            self.check_drawn_anew([read(book(*symbols)), watch(0, WHOLE)] + calls[:length - 1], calls[length - 1])

    def check_drawn_anew(self, before, call):
        blank = [0x00406080] * 64
        old, told, new = run(*before, draw(0, WHOLE, blank), call, draw(0, WHOLE, blank))[-3:]
        x, y, w, h = told[1][1:]
        part = last(*before, call, draw(0, view(0, SAME, (x, y, w, h)), blank[:w * h]))[1]
        picture = list(old[1])
        for k, drawn in enumerate(part):
            picture[8 * (y + k // w) + x + k % w] = drawn
        self.assertEqual(picture, new[1], call)
        self.assertNotEqual(old[1], new[1], call)


if __name__ == "__main__":
    unittest.main()
