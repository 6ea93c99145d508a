"""take and paint: at every kind of path, and what the book is then."""

import unittest

from tests.helper import (
    ADD, OK, REFUSED, WRITE, book, contour, count, group, item_bytes, look, nested, paint, put, read, run, shape, step,
    take, use,
)

FAR = 18446744073709551615
TAKEN = (1, [], [])
CURVED = contour(1, 2, step(5, 3, 4, 5, 6), step(6, -1, -2, -3, -4, -5, -6), step(2, 7, 7)) + [0]
A, B, C = shape(paint=(1, 1, 1, 1)), shape(1, 2, (2, 2, 2, 2), CURVED), use(0, 1, -2, 3, -4, 5, -6)
INNER = group(B, C, group(A), odd=1)
SYMBOLS = [[A, group()], [C, group(A, INNER, B, path=CURVED), B], []]
NOWHERE = (
    [], [0], [1], [2], [3], [FAR], [0, 2], [0, FAR], [1, 3], [2, 0], [3, 0], [FAR, 0], [1, 1, 3], [1, 1, 1, 3],
    [0, 1, 0], [0, 0, 0], [1, 0, 0], [1, 2, 0], [1, 1, 0, 0], [1, 1, 1, 1, 0], [1, 1, 1, 2, 1], [1, 1, 1, 2, 0, 0],
    [0] * 17, [0] * 18, [1] * 18, [1] * 64, [FAR] * 64,
)
NO_SHAPE = NOWHERE + ([0, 1], [1, 1], [1, 1, 1], [1, 1, 1, 2], [1, 0], [1, 1, 1, 1])


class TestTake(unittest.TestCase):
    def check_taken(self, path, *after):
        told = run(read(book(*SYMBOLS)), take(*path), WRITE)
        self.assertEqual(told[1:], [TAKEN, (0, [], book(*after))], path)

    def test_at_every_kind_of_path(self):
        empty = SYMBOLS[2]
        self.check_taken([0, 0], [group()], SYMBOLS[1], empty)
        self.check_taken([0, 1], [A], SYMBOLS[1], empty)
        self.check_taken([1, 0], SYMBOLS[0], SYMBOLS[1][1:], empty)
        self.check_taken([1, 1], SYMBOLS[0], [C, B], empty)
        self.check_taken([1, 2], SYMBOLS[0], SYMBOLS[1][:2], empty)

    def test_in_groups(self):
        def with_group(*inner):
            return [SYMBOLS[0], [C, group(*inner, path=CURVED), B], []]

        self.check_taken([1, 1, 0], *with_group(INNER, B))
        self.check_taken([1, 1, 1], *with_group(A, B))
        self.check_taken([1, 1, 2], *with_group(A, INNER))
        self.check_taken([1, 1, 1, 0], *with_group(A, group(C, group(A), odd=1), B))
        self.check_taken([1, 1, 1, 1], *with_group(A, group(B, group(A), odd=1), B))
        self.check_taken([1, 1, 1, 2], *with_group(A, group(B, C, odd=1), B))
        self.check_taken([1, 1, 1, 2, 0], *with_group(A, group(B, C, group(), odd=1), B))

    def test_items_that_are_not_there(self):
        for path in NOWHERE:
            told = run(read(book(*SYMBOLS)), take(*path), WRITE)
            self.assertEqual(told[1:], [OK, (0, [], book(*SYMBOLS))], path)

    def test_in_the_empty_book(self):
        self.assertEqual(run(take(), take(0), take(0, 0), take(FAR, FAR), WRITE), [OK] * 4 + [(0, [], book())])

    def test_one_after_another(self):
        told = run(read(book([A, B, A, B])), *[take(0, 1)] * 4, count(0), take(0, 0), take(0, 0), count(0), WRITE)
        self.assertEqual([answer[0] for answer in told], [0, 1, 1, 1, 0, 1, 1, 0, 0, 0])
        self.assertEqual(told[-1][2], book([]))

    def test_17_and_18_numbers(self):
        deep = book([nested(15, B), nested(16)])
        told = run(read(deep), take(*[0] * 18), take(0, 1, *[0] * 16), take(*[0] * 17), take(0, 1, *[0] * 15), WRITE)
        self.assertEqual(told[1:], [OK, OK, TAKEN, TAKEN, (0, [], book([nested(15), nested(15)]))])

    def test_a_symbol_stays_even_if_it_is_not_used_any_more(self):
        told = run(read(book([A], [C])), take(1, 0), take(0, 0), WRITE)
        self.assertEqual(told[-1], (0, [], book([], [])))

    def test_there_is_room_again(self):
        told = run(read(book([A] * 64)), put([0, 0], B), take(0, 5), put([0, 0], B), put([0, 0], B), WRITE)
        self.assertEqual([answer[0] for answer in told], [0, -3, 1, 0, -3, 0])
        self.assertEqual(told[-1][2], book([B] + [A] * 63))

    def test_what_has_been_taken_is_put_back(self):
        told = run(read(book(*SYMBOLS)), item_bytes(1, 1), take(1, 1), put([1, 1], SYMBOLS[1][1]), WRITE)
        self.assertEqual(told[1][2], SYMBOLS[1][1])
        self.assertEqual(told[-1][2], book(*SYMBOLS))


class Paints(unittest.TestCase):
    def check_painted(self, symbols, path, new, after):
        told = run(read(book(*symbols)), paint(path, *new), look(*path), WRITE)
        odd = told[2][1][0]
        self.assertEqual(told[1:], [TAKEN, (1, [odd, new[4], *new[:4]], []), (0, [], book(*after))], path)

    def check_unchanged(self, path, new, answer):
        told = run(read(book(*SYMBOLS)), paint(path, *new), WRITE)
        self.assertEqual(told[1:], [answer, (0, [], book(*SYMBOLS))], (path, new))


class TestPaint(Paints):
    def test_at_every_kind_of_path(self):
        new = (10, 20, 30, 40, 1)
        plain, curved = shape(0, 1, new[:4]), shape(1, 1, new[:4], CURVED)
        self.check_painted(SYMBOLS, [0, 0], new, [[plain, group()], *SYMBOLS[1:]])
        self.check_painted(SYMBOLS, [1, 2], new, [SYMBOLS[0], [*SYMBOLS[1][:2], curved], []])
        around = lambda *inner: [SYMBOLS[0], [C, group(*inner, path=CURVED), B], []]
        self.check_painted(SYMBOLS, [1, 1, 0], new, around(plain, INNER, B))
        self.check_painted(SYMBOLS, [1, 1, 2], new, around(A, INNER, curved))
        self.check_painted(SYMBOLS, [1, 1, 1, 0], new, around(A, group(curved, C, group(A), odd=1), B))
        self.check_painted(SYMBOLS, [1, 1, 1, 2, 0], new, around(A, group(B, C, group(plain), odd=1), B))

    def test_least_and_greatest(self):
        for new in ((0, 0, 0, 0, 0), (255, 255, 255, 255, 3), (255, 0, 0, 0, 0), (0, 255, 0, 0, 2), (0, 0, 255, 0, 1)):
            for odd in (0, 1):
                before = [[shape(odd, 1, (5, 6, 7, 8), CURVED)]]
                self.check_painted(before, [0, 0], new, [[shape(odd, new[4], new[:4], CURVED)]])

    def test_the_same_paint_again(self):
        self.check_painted([[B]], [0, 0], (2, 2, 2, 2, 2), [[B]])

    def test_just_one_of_two_that_are_alike(self):
        self.check_painted([[A, A], [A]], [0, 1], (9, 9, 9, 9, 3), [[A, shape(0, 3, (9, 9, 9, 9))], [A]])

    def test_17_and_18_numbers(self):
        deep = [[nested(15, A)]]
        self.check_painted(deep, [0] * 17, (9, 8, 7, 6, 1), [[nested(15, shape(0, 1, (9, 8, 7, 6)))]])
        told = run(read(book(*deep)), paint([0] * 18, 9, 8, 7, 6, 1), paint([0] * 16, 9, 8, 7, 6, 1), WRITE)
        self.assertEqual(told[1:], [OK, OK, (0, [], book(*deep))])

    def test_what_is_no_shape(self):
        for new in ((10, 20, 30, 40, 1), (0, 0, 0, 0, 0), (255, 255, 255, 255, 3)):
            for path in NO_SHAPE:
                self.check_unchanged(path, new, OK)

    def test_in_the_empty_book_and_in_an_added_symbol(self):
        painted = paint([0, 0], 1, 2, 3, 4, 1)
        told = run(painted, ADD, painted, put([0, 0], A), painted)
        self.assertEqual(told, [OK, OK, OK, OK, TAKEN])


class TestRefused(Paints):
    too_large = [
        (1, 2, 3, 4, 4), (1, 2, 3, 4, FAR), (256, 2, 3, 4, 0), (1, 256, 3, 4, 0), (1, 2, 256, 4, 0), (1, 2, 3, 256, 0),
        (FAR, 2, 3, 4, 0), (1, FAR, 3, 4, 0), (1, 2, FAR, 4, 0), (1, 2, 3, FAR, 0), (256, 256, 256, 256, 4),
    ]

    def test_each(self):
        for new in self.too_large:
            for path in ([0, 0], [1, 2], [1, 1, 0], [1, 1, 1, 2, 0]):
                self.check_unchanged(path, new, REFUSED)

    def test_where_the_path_leads_to_no_shape(self):
        for new in self.too_large:
            for path in NO_SHAPE:
                self.check_unchanged(path, new, REFUSED)

    def test_in_the_empty_book_and_in_an_added_symbol(self):
        for new in self.too_large:
            calls = [paint(path, *new) for path in ([], [0], [0, 0], [FAR] * 64)]
            told = run(*calls, ADD, *calls, WRITE)
            self.assertEqual(told, [REFUSED] * 4 + [OK] + [REFUSED] * 4 + [(0, [], book([]))], new)


if __name__ == "__main__":
    unittest.main()
