"""The interface: what is handed in, the form of what is given back."""

import contextlib
import io
import unittest

import inkpages.desk
from inkpages.desk import answers
from tests.helper import ADD, SYMBOLS, WRITE, book, count, group, item_bytes, look, put, read, run, shape, use


class Locked(list):
    """A list that can't be changed, not for a while either."""

    def refuse(self, *args, **kwargs):
        raise AssertionError("the list handed in is changed")

    append = extend = insert = pop = remove = clear = sort = reverse = refuse
    __setitem__ = __delitem__ = __iadd__ = __imul__ = refuse


class TestForm(unittest.TestCase):
    def test_each_kind_of_answer_number_by_number(self):
        self.assertEqual(inkpages.desk.answers([2]), [8, 0, 0, 5, 0x69, 0x6E, 0x6B, 0x31, 0])
        self.assertEqual(answers([3]), [3, 0, 0, 0])
        self.assertEqual(answers([4, 4, 3]), [3, 0, 0, 0, 3, 1, 0, 0, 3, 2, 0, 0])
        self.assertEqual(answers([1, 5, 0x69, 0x6E, 0x6B, 0x31, 0]), [3, 0, 0, 0])
        self.assertEqual(answers([5, 0, 4, 5, 1, 0]), [3, -1, 0, 0, 3, 0, 0, 0, 3, 0, 0, 0])
        self.assertEqual(answers([6, 0]), [3, 0, 0, 0])
        self.assertEqual(answers([7, 0]), [3, -1, 0, 0])
        self.assertEqual(answers([8, 0, 0]), [3, -1, 0, 0])

    def test_rows_and_bytes_have_their_counts(self):
        item = [1, 5, 9, 8, 7, 6, 1, 0, 0, 3, 2, 0]
        calls = [4, 8, 2, 0, 0, 12] + item + [6, 2, 0, 0, 7, 2, 0, 0]
        expected = [3, 0, 0, 0, 3, 0, 0, 0, 9, 1, 6, 1, 2, 9, 8, 7, 6, 0, 15, 0, 0, 12] + item
        self.assertEqual(answers(calls), expected)

    def test_refusals(self):
        self.assertEqual(answers([1, 0]), [4, -2, 1, 0, 0])
        self.assertEqual(answers([1, 1, 0x69]), [4, -2, 1, 1, 0])
        self.assertEqual(answers([4, 8, 2, 0, 0, 0]), [3, 0, 0, 0, 4, -2, 1, 0, 0])
        self.assertEqual(answers([8, 2, 0, 0, 0]), [3, -1, 0, 0])
        self.assertEqual(answers([1, 4097] + [0] * 4097), [3, -1, 0, 0])
        full = read(book(*[[]] * 255))
        self.assertEqual(answers(full + [4]), [3, 0, 0, 0, 3, -3, 0, 0])

    def test_whole_numbers_are_int_and_never_bool(self):
        symbols = [[shape(1, 3), group(odd=1)], [use(0)]]
        told = answers(read(book(*symbols)) + look(0, 0) + look(0, 1) + look(1, 0) + WRITE + count(0))
        self.assertIs(type(told), list)
        self.assertEqual({type(value) for value in told}, {int})


class TestCallsBehindOneAnother(unittest.TestCase):
    def test_calls_are_about_one_object(self):
        told = run(SYMBOLS, ADD, ADD, SYMBOLS, put([1, 0], use(0)), count(1), put([0, 0], shape()), WRITE)
        data = book([shape()], [use(0)])
        self.assertEqual([answer[0] for answer in told], [0, 0, 1, 2, 0, 1, 0, 0])
        self.assertEqual(told[-1], (0, [], data))

    def test_two_hundred_calls(self):
        calls = [ADD] + [put([0, k], empty_group(k)) for k in range(64)] + [count(0), WRITE] * 60
        calls += [look(0, k) for k in range(15)]
        self.assertEqual(len(calls), 200)
        told = run(*calls)
        data = book([empty_group(k) for k in range(64)])
        self.assertEqual(told[65:67], [(64, [], []), (0, [], data)])
        self.assertEqual(told[184], (0, [], data))
        self.assertEqual(told[185:], [(2, [k % 2, 0], []) for k in range(15)])

    def test_sixteen_thousand_numbers(self):
        data = book([shape()])
        many = [read(data + [0] * (3800 - len(data)))] * 4 + [read(data), WRITE]
        told = run(*many)
        self.assertEqual(told[:4], [(-2, [len(data)], [])] * 4)
        self.assertEqual(told[5], (0, [], data))


def empty_group(k):
    return group(odd=k % 2)


class TestNothingKept(unittest.TestCase):
    def test_each_time_is_the_first(self):
        first = answers(ADD + ADD + put([0, 0], shape()) + WRITE)
        self.assertEqual(answers(SYMBOLS), [3, 0, 0, 0])
        self.assertEqual(answers(WRITE)[4:], book())
        self.assertEqual(answers(ADD + ADD + put([0, 0], shape()) + WRITE), first)

    def test_what_is_handed_in_is_not_changed(self):
        data = book([group(shape())], [use(0)])
        calls = Locked(read(data) + put([0, 0, 1], shape()) + put([0, 0, 1], [9]) + ADD + item_bytes(0, 0) + WRITE)
        before = list(calls)
        told = answers(calls)
        self.assertEqual(list(calls), before)
        told.clear()
        self.assertEqual(list(calls), before)

    def test_nothing_is_printed(self):
        out = io.StringIO()
        with contextlib.redirect_stdout(out), contextlib.redirect_stderr(out):
            answers(read(book([shape()])) + WRITE + read([0]))
        self.assertEqual(out.getvalue(), "")


if __name__ == "__main__":
    unittest.main()
