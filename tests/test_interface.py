"""The interface: what is handed in, the form of what is given back."""

import contextlib
import io
import unittest

import inkpages.desk
from inkpages.desk import answers
from tests.helper import (
    ADD, OK, REFUSED, SAME, SYMBOLS, WRITE, book, bounds, cells, count, draw, group, hit, item_bytes, layers, look,
    moved, paint, put, read, run, shape, take, unwatch, use, view, watch,
)

WHOLE = view(1, SAME, (0, 0, 8, 8))
# A call of each of the sixteen kinds, and its answer.
SIXTEEN = (
    (read(book([shape(1, 3, path=cells(1, 1))], [group(use(0), moved(0, 256, 0), odd=1, path=cells(0, 0, 3, 3))])), OK),
    (SYMBOLS, (2, [], [])),
    (watch(0, WHOLE), OK),
    (watch(3, WHOLE), OK),
    (unwatch(3), OK),
    (put([1, 0], shape(path=cells(2, 1))), (0, [0, 2, 1, 1, 1], [])),
    (ADD, (2, [], [])),
    (count(1), (2, [], [])),
    (look(1, 1), (2, [1, 2], [])),
    (item_bytes(1, 1, 0), (0, [], use(0))),
    (paint([0, 0], 255, 128, 64, 255, 0), (1, [0, 1, 1, 2, 1], [])),
    (layers(2, 1, WHOLE), (2, [65535, 1, 2, 3, 4, 0, 0, 1, 0, 65535, 255, 128, 64, 255, 0, 1, 3, 2], [])),
    (bounds(WHOLE), (1, [1, 1, 2, 1], [])),
    (hit(600, 300, WHOLE), (4, [1, 1, 1, 0], [])),
    (draw(0, view(1, SAME, (0, 1, 3, 1)), [7, 7, 7]), (0, [7, 0xFF8040, 0xFF8040], [])),
    (take(1, 1, 0), (1, [0, 1, 1, 1, 1], [])),
    (WRITE, (0, [], book(
        [shape(1, 0, (255, 128, 64, 255), cells(1, 1))],
        [shape(path=cells(2, 1)), group(moved(0, 256, 0), odd=1, path=cells(0, 0, 3, 3))],
        [],
    ))),
)


class Locked(list):
    """A list that can't be changed, not for a while either."""

    def refuse(self, *args, **kwargs):
        raise AssertionError("the list handed in is changed")

    append = extend = insert = pop = remove = clear = sort = reverse = refuse
    __setitem__ = __delitem__ = __iadd__ = __imul__ = refuse


class TestForm(unittest.TestCase):
    def test_each_kind_of_answer_number_by_number(self):
        self.assertEqual(inkpages.desk.answers([2]), [8, 0, 0, 5, 0x69, 0x6E, 0x6B, 0x31, 0])
        self.assertEqual(answers([3]), [3, 0, 0, 0])
        self.assertEqual(answers([4, 4, 3]), [3, 0, 0, 0, 3, 1, 0, 0, 3, 2, 0, 0])
        self.assertEqual(answers([1, 5, 0x69, 0x6E, 0x6B, 0x31, 0]), [3, 0, 0, 0])
        self.assertEqual(answers([5, 0, 4, 5, 1, 0]), [3, -1, 0, 0, 3, 0, 0, 0, 3, 0, 0, 0])
        self.assertEqual(answers([6, 0]), [3, 0, 0, 0])
        self.assertEqual(answers([7, 0]), [3, -1, 0, 0])
        self.assertEqual(answers([8, 0, 0]), [3, -1, 0, 0])

    def test_each_kind_of_answer_of_the_calls_from_9_on(self):
        seen = [11, 0, 2 ** 32, 0, 0, 2 ** 32, 0, 0, 0, 0, 1, 1]
        item = [1, 0, 9, 8, 7, 255, 1, 0, 0, 3, 128, 4, 4, 128, 4, 3, 255, 3, 0]
        put_it = [4, 8, 2, 0, 0, len(item)] + item
        put_told = [3, 0, 0, 0, 3, 0, 0, 0]
        for call, told in (
            ([9, 2, 0, 0], [3, 1, 0, 0]), ([9, 2, 0, 1], [3, 0, 0, 0]), ([9, 0], [3, 0, 0, 0]),
            ([10, 1, 2, 3, 4, 3, 2, 0, 0], [3, 1, 0, 0]), ([10, 1, 2, 3, 4, 3, 0], [3, 0, 0, 0]),
            ([10, 1, 2, 3, 4, 4, 2, 0, 0], [3, -1, 0, 0]),
            ([11, 0] + seen + [1, 0xFF000000], [4, 0, 1, 0xFF090807, 0]), ([11, 4] + seen + [1, 0], [3, -1, 0, 0]),
            ([11, 0] + seen + [0], [3, -1, 0, 0]),
            ([12, 0, 0] + seen, [12, 1, 9, 65535, 9, 8, 7, 255, 0, 0, 1, 0, 0]), ([12, 1, 0] + seen, [3, 0, 0, 0]),
            ([12, 4194304, 0] + seen, [3, -1, 0, 0]),
            ([13] + seen, [7, 1, 4, 0, 0, 1, 1, 0]), ([13, 11, 1] + seen[2:], [3, -1, 0, 0]),
            ([14, 0, 0] + seen, [5, 2, 2, 0, 0, 0]), ([14, -1, 0] + seen, [3, 0, 0, 0]),
            ([14, 0, 0, 11, 1] + seen[2:], [3, -1, 0, 0]),
            ([15, 3] + seen, [3, 0, 0, 0]), ([15, 4] + seen, [3, -1, 0, 0]),
            ([16, 3], [3, 0, 0, 0]), ([16, 4], [3, -1, 0, 0]),
            ([15, 2] + seen + [9, 2, 0, 0], [3, 0, 0, 0, 8, 1, 5, 2, 0, 0, 1, 1, 0]),
            ([15, 2] + seen + put_it[1:], [3, 0, 0, 0, 8, 0, 5, 2, 0, 0, 1, 1, 0]),
        ):
            self.assertEqual(answers(put_it + call), put_told + told, call)

    def test_rows_and_bytes_have_their_counts(self):
        item = [1, 5, 9, 8, 7, 6, 1, 0, 0, 3, 2, 0]
        calls = [4, 8, 2, 0, 0, 12] + item + [6, 2, 0, 0, 7, 2, 0, 0]
        expected = [3, 0, 0, 0, 3, 0, 0, 0, 9, 1, 6, 1, 2, 9, 8, 7, 6, 0, 15, 0, 0, 12] + item
        self.assertEqual(answers(calls), expected)

    def test_refusals(self):
        self.assertEqual(answers([1, 0]), [4, -2, 1, 0, 0])
        self.assertEqual(answers([1, 1, 0x69]), [4, -2, 1, 1, 0])
        self.assertEqual(answers([4, 8, 2, 0, 0, 0]), [3, 0, 0, 0, 4, -2, 1, 0, 0])
        self.assertEqual(answers([8, 2, 0, 0, 0]), [3, -1, 0, 0])
        self.assertEqual(answers([1, 4097] + [0] * 4097), [3, -1, 0, 0])
        full = read(book(*[[]] * 255))
        self.assertEqual(answers(full + [4]), [3, 0, 0, 0, 3, -3, 0, 0])

    def test_whole_numbers_are_int_and_never_bool(self):
        symbols = [[shape(1, 3), group(odd=1)], [use(0)]]
        told = answers(read(book(*symbols)) + look(0, 0) + look(0, 1) + look(1, 0) + WRITE + count(0))
        self.assertIs(type(told), list)
        self.assertEqual({type(value) for value in told}, {int})
        told = answers([value for call, answer in SIXTEEN for value in call])
        self.assertEqual({type(value) for value in told}, {int})


class TestCallsBehindOneAnother(unittest.TestCase):
    def test_calls_are_about_one_object(self):
        told = run(SYMBOLS, ADD, ADD, SYMBOLS, put([1, 0], use(0)), count(1), put([0, 0], shape()), WRITE)
        data = book([shape()], [use(0)])
        self.assertEqual([answer[0] for answer in told], [0, 0, 1, 2, 0, 1, 0, 0])
        self.assertEqual(told[-1], (0, [], data))

    def test_all_sixteen(self):
        self.assertEqual({call[0] for call, answer in SIXTEEN}, set(range(1, 17)))
        self.assertEqual(run(*[call for call, answer in SIXTEEN]), [answer for call, answer in SIXTEEN])

    def test_all_sixteen_again_and_again_up_to_two_hundred(self):
        # what was watched at first tells of the later reads; unwatched before them they tell nothing
        once = SIXTEEN + ((unwatch(0), OK),)
        pairs = (once * 12)[:200]
        self.assertEqual(len(pairs), 200)
        self.assertLessEqual(sum(len(call) for call, answer in pairs), 16000)
        self.assertEqual(run(*[call for call, answer in pairs]), [answer for call, answer in pairs])

    def test_two_hundred_edits_and_drawings(self):
        row = view(0, SAME, (0, 0, 8, 1))
        calls = [ADD] + [watch(k, row) for k in range(4)]
        expected = [OK] * 5
        for k in range(48):
            x = k % 8
            calls += [put([0, k], shape(paint=(k, k, k, 255), path=cells(x, 0))), draw(3, row, [99] * 8)]
            pixels = [k - (x - i) % 8 if k >= (x - i) % 8 else 99 for i in range(8)]
            expected += [(0, [z for n in range(4) for z in (n, x, 0, 1, 1)], []), (0, pixels, [])]
            calls += [hit(256 * x, 0, row), paint([0, k], k, k, k, 256, 0)]
            expected += [(2, [0, k], []), REFUSED]
        calls += [take(0, 0), WRITE, count(0)]
        self.assertEqual(len(calls), 200)
        told = run(*calls)
        self.assertEqual(told[:197], expected)
        self.assertEqual(told[197][:2], (1, [z for n in range(4) for z in (n, 0, 0, 1, 1)]))
        self.assertEqual(told[199], (47, [], []))

    def test_two_hundred_calls(self):
        calls = [ADD] + [put([0, k], empty_group(k)) for k in range(64)] + [count(0), WRITE] * 60
        calls += [look(0, k) for k in range(15)]
        self.assertEqual(len(calls), 200)
        told = run(*calls)
        data = book([empty_group(k) for k in range(64)])
        self.assertEqual(told[65:67], [(64, [], []), (0, [], data)])
        self.assertEqual(told[184], (0, [], data))
        self.assertEqual(told[185:], [(2, [k % 2, 0], []) for k in range(15)])

    def test_sixteen_thousand_numbers(self):
        data = book([shape()])
        many = [read(data + [0] * (3800 - len(data)))] * 4 + [read(data), WRITE]
        told = run(*many)
        self.assertEqual(told[:4], [(-2, [len(data)], [])] * 4)
        self.assertEqual(told[5], (0, [], data))


def empty_group(k):
    return group(odd=k % 2)


class TestNothingKept(unittest.TestCase):
    def test_each_time_is_the_first(self):
        first = answers(ADD + ADD + put([0, 0], shape()) + WRITE)
        self.assertEqual(answers(SYMBOLS), [3, 0, 0, 0])
        self.assertEqual(answers(WRITE)[4:], book())
        self.assertEqual(answers(ADD + ADD + put([0, 0], shape()) + WRITE), first)

    def test_what_is_handed_in_is_not_changed(self):
        data = book([group(shape())], [use(0)])
        calls = Locked(read(data) + put([0, 0, 1], shape()) + put([0, 0, 1], [9]) + ADD + item_bytes(0, 0) + WRITE)
        before = list(calls)
        told = answers(calls)
        self.assertEqual(list(calls), before)
        told.clear()
        self.assertEqual(list(calls), before)

    def test_what_is_handed_in_to_all_sixteen_is_not_changed(self):
        calls = Locked([value for call, answer in SIXTEEN for value in call])
        before = list(calls)
        self.assertEqual(answers(calls), answers(before))
        self.assertEqual(list(calls), before)

    def test_nothing_is_watched_at_first(self):
        answers([value for call, answer in SIXTEEN for value in call])
        self.assertEqual(run(read(book([])), put([0, 0], shape(path=cells(0, 0)))), [OK, OK])

    def test_nothing_is_printed(self):
        out = io.StringIO()
        with contextlib.redirect_stdout(out), contextlib.redirect_stderr(out):
            answers(read(book([shape()])) + WRITE + read([0]))
            answers([value for call, answer in SIXTEEN for value in call])
        self.assertEqual(out.getvalue(), "")


if __name__ == "__main__":
    unittest.main()
