"""put: where the item comes to lie, and each refusal in its order."""

import unittest

from tests.helper import (
    ADD, OK, PAST_BOUNDS, REFUSED, WRITE, book, contour, group, item_bytes, last, nested, put, read, run, shape, step,
    use, wrong,
)

FAR = 18446744073709551615
A = shape(paint=(1, 0, 0, 0))
B = shape(paint=(2, 0, 0, 0))
C = use(0, 1, 2, 3, 4, 5, 6)
CURVES = contour(5, 5, step(5, 1, 2, 3, 4), step(6, 1, 2, 3, 4, 5, 6))
NEW = shape(1, 3, (9, 9, 9, 9), CURVES + contour(1, 1, step(4, 2)) + [0])
TOO_MANY = [0] * 4097


class TestWhere(unittest.TestCase):
    def check_put(self, before, path, item, after):
        told = run(read(book(*before)), put(path, item), item_bytes(*path), WRITE)
        self.assertEqual(told, [OK, OK, (0, [], item), (0, [], book(*after))])

    def test_in_a_symbol(self):
        self.check_put([[], []], [0, 0], NEW, [[NEW], []])
        self.check_put([[], []], [1, 0], NEW, [[], [NEW]])
        self.check_put([[A], [A, B, C]], [1, 0], NEW, [[A], [NEW, A, B, C]])
        self.check_put([[A], [A, B, C]], [1, 1], NEW, [[A], [A, NEW, B, C]])
        self.check_put([[A], [A, B, C]], [1, 2], NEW, [[A], [A, B, NEW, C]])
        self.check_put([[A], [A, B, C]], [1, 3], NEW, [[A], [A, B, C, NEW]])

    def test_in_groups(self):
        def around(*inner):
            return [[B], [A, group(A, group(*inner, odd=1), B), C], [group(B)]]

        self.check_put(around(), [1, 1, 1, 0], NEW, around(NEW))
        self.check_put(around(A, B), [1, 1, 1, 0], NEW, around(NEW, A, B))
        self.check_put(around(A, B), [1, 1, 1, 1], NEW, around(A, NEW, B))
        self.check_put(around(A, B), [1, 1, 1, 2], NEW, around(A, B, NEW))
        self.check_put(around(A), [1, 1, 3], NEW, [[B], [A, group(A, group(A, odd=1), B, NEW), C], [group(B)]])

    def test_each_kind_of_item(self):
        far = use(0, -2 ** 63, 2 ** 63 - 1, 0, 0, -2 ** 31, 2 ** 31 - 1)
        for item in (NEW, C, far, group(odd=1), group(A, group(C))):
            self.check_put([[A], [B]], [1, 0], item, [[A], [item, B]])

    def test_at_the_deepest_place(self):
        self.check_put([[nested(15)]], [0] * 17, A, [[nested(15, A)]])

    def test_one_behind_another(self):
        told = run(
            ADD, ADD, put([1, 0], group()), put([1, 0, 0], A), put([1, 0, 0], group()), put([1, 0, 0, 0], C),
            put([1, 0, 2], B), put([0, 0], A), put([1, 0], B), WRITE,
        )
        self.assertEqual(told[2:-1], [OK] * 7)
        self.assertEqual(told[-1][2], book([A], [B, group(group(C), A, B)]))

    def test_the_same_item_twice_is_two_items(self):
        told = run(ADD, put([0, 0], group()), put([0, 0], group()), put([0, 0, 0], A), WRITE)
        self.assertEqual(told[-1][2], book([group(A), group()]))


class Refused(unittest.TestCase):
    before = [[A, group(A)], [A, C, group(A, C, group())], []]

    def check_refused(self, path, data, answer):
        told = run(read(book(*self.before)), put(path, data), WRITE)
        self.assertEqual(told[1], answer, (path, data))
        self.assertEqual(told[2], (0, [], book(*self.before)))


class TestRefused(Refused):
    def test_paths_that_lead_to_no_list(self):
        for path in (
            [], [0], [2], [FAR], [0] * 18, [1] * 18, [0] * 64,
            [3, 0], [FAR, 0], [0, 3], [2, 1], [1, 4], [1, FAR], [FAR, FAR],
            [0, 0, 0], [1, 1, 0], [1, 2, 0, 0], [1, 2, 1, 0], [1, 3, 0], [1, FAR, 0],
            [1, 2, 4], [1, 2, FAR], [1, 2, 2, 1], [0] * 17,
        ):
            self.check_refused(path, A, REFUSED)

    def test_18_numbers_where_a_group_is(self):
        told = run(read(book([nested(16)])), put([0] * 18, A), WRITE)
        self.assertEqual(told[1:], [REFUSED, (0, [], book([nested(16)]))])

    def test_too_many_bytes(self):
        self.check_refused([0, 0], TOO_MANY, REFUSED)
        self.check_refused([0, 0], A + [0] * 4988, REFUSED)
        self.check_refused([0, 0], [0] * 4096, wrong(0))
        self.check_refused([0, 0], A + [0] * (4096 - len(A)), wrong(len(A)))

    def test_an_item_begins_with_1_to_3(self):
        for byte in range(256):
            self.check_refused([2, 0], [byte], wrong(1 if 1 <= byte <= 3 else 0))

    def test_the_end_at_every_place(self):
        for item in (NEW, C, group(A, group(C), NEW)):
            for length in range(len(item)):
                self.check_refused([1, 0], item[:length], wrong(length))

    def test_bytes_behind_the_item(self):
        for item in (NEW, C, group(A)):
            for byte in (0, 1, 2, 3, 255):
                self.check_refused([1, 0], item + [byte], wrong(len(item)))
            self.check_refused([1, 0], item + item, wrong(len(item)))

    def test_a_symbol_that_is_not_below(self):
        for symbol in range(3):
            for used in (0, 1, 2, 3, 255):
                if used >= symbol:
                    self.check_refused([symbol, 0], use(used), wrong(1))
                    self.check_refused([symbol, 0], group(use(used)), wrong(9))
        self.check_refused([1, 2, 2, 0], use(1), wrong(1))
        self.assertEqual(last(read(book(*self.before)), put([2, 0], group(use(1), use(0)))), OK)

    def test_wrong_bytes_within(self):
        self.check_refused([0, 0], [1, 8] + A[2:], wrong(1))
        self.check_refused([0, 0], [2, 2] + group()[2:], wrong(1))
        self.check_refused([0, 0], A[:6] + [0], wrong(6))
        self.check_refused([0, 0], A[:9] + [0], wrong(9))
        self.check_refused([0, 0], A[:9] + [7], wrong(9))
        self.check_refused([0, 0], A[:11] + [7], wrong(11))
        self.check_refused([0, 0], group()[:-1] + [4], wrong(8))

    def test_groups_that_lie_deep_and_end_wrong(self):
        item = nested(450)
        self.check_refused([0, 0], item[:-1], wrong(len(item) - 1))
        self.check_refused([0, 0], item, PAST_BOUNDS)


class TestWhichIsToldFirst(Refused):
    deep = nested(17)

    def test_path_before_bytes_before_bounds(self):
        for path in ([], [0], [0] * 18, [3, 0], [0, 3], [0, 0, 0]):
            for data in (TOO_MANY, [], [0], self.deep + [0], self.deep):
                self.check_refused(path, data, REFUSED)

    def test_too_many_bytes_before_wrong_bytes(self):
        self.check_refused([0, 0], self.deep + [0] * 4096, REFUSED)

    def test_wrong_bytes_before_bounds(self):
        self.check_refused([0, 0], self.deep + [0], wrong(len(self.deep)))
        self.check_refused([0, 0], self.deep[:-1], wrong(len(self.deep) - 1))
        self.check_refused([0, 0], self.deep, PAST_BOUNDS)


if __name__ == "__main__":
    unittest.main()
