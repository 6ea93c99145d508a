"""Rows of all sixteen calls against a model that asks of every sample, line by line, what the document's words say."""

import math
import unittest

from tests.helper import (
    ONE, WRITE, book, bounds, draw, group, hit, layers, paint, read, run, shape, take, unwatch, use, watch,
)
from tests.test_model import Maker, Model, parse_book

CELLS = range(-4194304, 4194304)
FORMATS = {
    0: (32, {"b": (0, 8), "g": (8, 8), "r": (16, 8)}),
    1: (16, {"b": (0, 5), "g": (5, 6), "r": (11, 5)}),
    2: (32, {"b": (0, 10), "g": (10, 10), "r": (20, 10)}),
    3: (8, {"grey": (0, 8)}),
}


def through(point, maps):
    x, y = point
    for a, b, c, d, e, f in maps:
        x, y = e + (a * x + c * y + 2 ** 31) // 2 ** 32, f + (b * x + d * y + 2 ** 31) // 2 ** 32
        x, y = [min(max(z, -1073741824), 1073741823) for z in (x, y)]
    return x, y


def along(points, i):
    """One of a curve's sixteen points: of one or of two control points."""
    n = len(points) - 1
    weights = [math.comb(n, k) * (16 - i) ** (n - k) * i ** k for k in range(n + 1)]
    return tuple((sum(w * p[axis] for w, p in zip(weights, points)) + 16 ** n // 2) // 16 ** n for axis in (0, 1))


def lines_of(node, maps):
    lines = []
    for contour in node.contours:
        ring = [through(contour[0][0], maps)]
        for points in contour[1:]:
            step = [ring[-1]] + [through(point, maps) for point in points]
            ring += [along(step, i) for i in range(1, 17)] if len(step) > 2 else step[1:]
        lines += list(zip(ring, ring[1:] + ring[:1]))
    return lines


def winding(lines, sx, sy):
    total = 0
    for (px, py), (qx, qy) in lines:
        if py <= sy < qy and (qx - px) * (sy - py) <= (sx - px) * (qy - py):
            total += 1
        if qy <= sy < py and (qx - px) * (sy - py) >= (sx - px) * (qy - py):
            total -= 1
    return total


def found_in(nodes, roots, maps, numbers, around):
    """Of each shape in order: the numbers that lead to it, the shape, and all that must cover a place."""
    for k, node in enumerate(nodes):
        here = numbers + [k]
        if node.used is not None:
            matrix = tuple(node.seen[1][1:])
            yield from found_in(roots[node.used].children, roots, [matrix] + maps, here, around)
            continue
        covering = around + [(lines_of(node, maps), node.seen[1][0])]
        if node.seen[0] == 1:
            yield here, node, covering
        else:
            yield from found_in(node.children, roots, maps, here, covering)


def is_covered(covering, sx, sy):
    for lines, odd in covering:
        turns = winding(lines, sx, sy)
        if turns == 0 or (odd and turns % 2 == 0):
            return False
    return True


class Picture:
    """A book's view."""

    def __init__(self, data, seen):
        self.seen = seen
        self.roots = parse_book(data)
        self.good = self.is_good()
        if self.good:
            nodes = self.roots[seen[0]].children
            self.shapes = list(found_in(nodes, self.roots, [tuple(seen[1:7])], [seen[0]], []))

    def is_good(self):
        x, y, w, h = self.seen[7:]
        return (
            0 <= self.seen[0] < len(self.roots)
            and all(-2 ** 63 <= z < 2 ** 63 for z in self.seen[1:5])
            and all(-2 ** 31 <= z < 2 ** 31 for z in self.seen[5:7])
            and 0 <= w <= 8 and 0 <= h <= 8 and -4194304 <= x <= 4194304 - w and -4194304 <= y <= 4194304 - h
        )

    def window(self):
        x, y, w, h = self.seen[7:]
        return [(x + i, y + j) for j in range(h) for i in range(w)]

    def layers(self, cx, cy):
        """Nine numbers each."""
        found = []
        for order, (numbers, node, covering) in enumerate(self.shapes):
            mask = 0
            for j in range(4):
                for i in range(4):
                    if is_covered(covering, 256 * cx + 64 * i + 32, 256 * cy + 64 * j + 32):
                        mask |= 1 << (4 * j + i)
            odd, mode, *colours = node.seen[1]
            if mask:
                found.append((mask, *colours, mode, odd, len(numbers) - 1, order))
        return found

    def topmost(self, sx, sy):
        hits = [numbers for numbers, node, covering in self.shapes if is_covered(covering, sx, sy)]
        return hits[-1] if hits else []


def box_of(cells):
    xs = [cell[0] for cell in cells]
    ys = [cell[1] for cell in cells]
    return [min(xs), min(ys), max(xs) - min(xs) + 1, max(ys) - min(ys) + 1]


def painted(pixel, pixel_format, found):
    for mask, r, g, b, a, mode, odd, deep, order in found:
        colours = {"r": r, "g": g, "b": b, "grey": (77 * r + 150 * g + 29 * b + 128) // 256}
        v = bin(mask).count("1") * a
        for name, (low, bits) in FORMATS[pixel_format][1].items():
            k = 2 ** bits - 1
            o = pixel // 2 ** low % 2 ** bits
            c = (colours[name] * k + 127) // 255
            t = (c, (o * c + k // 2) // k, max(o, c), abs(o - c))[mode]
            pixel -= o * 2 ** low
            pixel += (o * (4080 - v) + t * v + 2040) // 4080 * 2 ** low
    return pixel


class DrawingModel(Model):
    def __init__(self):
        super().__init__()
        self.watched = {}

    def told(self, before):
        told = []
        for k in range(4) if before != self.data else ():
            if k not in self.watched:
                continue
            old, new = Picture(before, self.watched[k]), Picture(self.data, self.watched[k])
            if old.good and new.good:
                plain = [[layer[:7] for layer in old.layers(*cell)] for cell in old.window()]
                others = [
                    cell for cell, was in zip(new.window(), plain) if [layer[:7] for layer in new.layers(*cell)] != was
                ]
                told += [k] + box_of(others) if others else []
        return told

    def read(self, data):
        before = self.data
        answer = super().read(data)
        return answer if answer[0] < 0 else (0, self.told(before), [])

    def put(self, path, data):
        before = self.data
        answer = super().put(path, data)
        return answer if answer[0] < 0 else (0, self.told(before), [])

    def take(self, *path):
        before = self.data
        node = self.find(path)
        if not node or not node.seen:
            return (0, [], [])
        self.data = before[:node.begin] + before[node.end:]
        return (1, self.told(before), [])

    def paint(self, path, r, g, b, a, mode):
        before = self.data
        if mode > 3 or r > 255 or g > 255 or b > 255 or a > 255:
            return (-1, [], [])
        node = self.find(path)
        if not node or not node.seen or node.seen[0] != 1:
            return (0, [], [])
        second = [node.seen[1][0] + 2 * mode, r, g, b, a]
        self.data = before[:node.begin + 1] + second + before[node.begin + 6:]
        return (1, self.told(before), [])

    def draw(self, pixel_format, seen, pixels):
        picture = Picture(self.data, seen)
        if not picture.good or pixel_format > 3 or len(pixels) != seen[9] * seen[10]:
            return (-1, [], [])
        if any(pixel >= 2 ** FORMATS[pixel_format][0] for pixel in pixels):
            return (-1, [], [])
        window = picture.window()
        return (0, [painted(o, pixel_format, picture.layers(*cell)) for o, cell in zip(pixels, window)], [])

    def layers(self, cx, cy, seen):
        picture = Picture(self.data, seen)
        if not picture.good or cx not in CELLS or cy not in CELLS:
            return (-1, [], [])
        found = picture.layers(cx, cy)
        return (len(found), [z for layer in found for z in layer], [])

    def bounds(self, seen):
        picture = Picture(self.data, seen)
        if not picture.good:
            return (-1, [], [])
        filled = [cell for cell in picture.window() if picture.layers(*cell)]
        return (1, box_of(filled), []) if filled else (0, [], [])

    def hit(self, sx, sy, seen):
        picture = Picture(self.data, seen)
        if not picture.good:
            return (-1, [], [])
        numbers = picture.topmost(sx, sy)
        return (len(numbers), numbers, [])

    def watch(self, k, seen):
        if k > 3:
            return (-1, [], [])
        self.watched[k] = seen
        return (0, [], [])

    def unwatch(self, k):
        self.watched.pop(k, None)
        return (0 if k < 4 else -1, [], [])


class DrawingMaker(Maker):
    """Books that lie about the cell (0, 0), views that look there, and calls of all sixteen kinds."""

    def number(self, least, greatest):
        if self.dice.random() < 0.02:
            return self.dice.choice((least, greatest))
        if greatest == 2 ** 63 - 1:
            return self.dice.choice((ONE, ONE, -ONE, 0, ONE // 2, self.dice.randint(-ONE, ONE)))
        return min(greatest, max(least, self.dice.choice((1, 64, 64, 1)) * self.dice.randint(-16, 16)))

    def view(self, model):
        symbol = self.dice.randrange(max(1, model.data[4]))
        matrix = [ONE, 0, 0, ONE, 0, 0]
        if self.dice.random() < 0.4:
            matrix = [self.number(-2 ** 63, 2 ** 63 - 1) for _ in range(4)]
            matrix += [self.number(-2 ** 31, 2 ** 31 - 1) for _ in range(2)]
        window = [self.dice.randint(-3, 1), self.dice.randint(-3, 1), self.dice.randint(0, 4), self.dice.randint(0, 4)]
        row = [symbol] + matrix + window
        if self.dice.random() < 0.1:
            row[self.dice.randrange(11)] = self.dice.choice((0, 1, 9, 2 ** 64 - 1))
        return row

    def paint(self):
        wrong = self.dice.random() < 0.1
        row = [self.dice.randrange(256) for _ in range(4)] + [self.dice.randrange(4)]
        if wrong:
            row[self.dice.randrange(5)] = self.dice.choice((4, 256, 2 ** 64 - 1))
        return row

    def pixels(self, seen):
        many = min(64, max(0, seen[9]) * max(0, seen[10]))
        many += self.dice.random() < 0.05
        bits = self.dice.choice((8, 16, 32))
        return [self.dice.randrange(2 ** bits) for _ in range(min(64, many))]

    def call(self, model, kinds):
        kind = self.dice.choice(kinds)
        seen = self.view(model)
        k = self.dice.choice((0, 1, 2, 3, 3, 4))
        if kind == "take":
            path = self.somewhere(model)
            return take(*path), model.take(*path)
        if kind == "paint":
            given = (self.somewhere(model), *self.paint())
            return paint(*given), model.paint(*given)
        if kind == "draw":
            given = (self.dice.choice((0, 1, 2, 3, 0, 1, 2, 3, 4)), seen, self.pixels(seen))
            return draw(*given), model.draw(*given)
        if kind == "layers":
            given = (self.dice.randint(-3, 3), self.dice.randint(-3, 3), seen)
            return layers(*given), model.layers(*given)
        if kind == "hit":
            given = (self.dice.randint(-600, 600), self.dice.randint(-9, 9) * 64, seen)
            return hit(*given), model.hit(*given)
        if kind == "bounds":
            return bounds(seen), model.bounds(seen)
        if kind == "watch":
            return watch(k, seen), model.watch(k, seen)
        if kind == "unwatch":
            return unwatch(k), model.unwatch(k)
        return super().call(model, (kind,))


EDITS = ("put",) * 9 + ("take",) * 4 + ("paint",) * 4 + ("add", "read")
ASKED = ("draw", "draw", "layers", "layers", "bounds", "hit", "hit", "look", "write")
WATCHED = ("watch",) * 4 + ("unwatch",)


class TestAgainstModel(unittest.TestCase):
    def check_row(self, seed, first, kinds, length):
        maker = DrawingMaker(seed)
        model = DrawingModel()
        pairs = [(read(first), model.read(first))]
        self.assertEqual(pairs[0][1][0], 0)
        while len(pairs) < length:
            pairs.append(maker.call(model, kinds))
        pairs.append((WRITE, model.write()))
        told = run(*[pair[0] for pair in pairs])
        for k, pair in enumerate(pairs):
            self.assertEqual(told[k], pair[1], (seed, k, pair[0]))
        return [(pair[0][0], answer) for pair, answer in zip(pairs, told)]

    def test_rows_of_calls(self):
        seen = set()
        for seed in range(60):
            start = DrawingMaker(5000 + seed).book()
            first = start if Model().read(start)[0] == 0 else book()
            for number, answer in self.check_row(seed, first, EDITS + ASKED + WATCHED, 80):
                seen.add((number, min(answer[0], 1), bool(answer[1])))
        for kind in (
            (1, 0, True), (8, 0, True), (9, 1, True), (10, 1, True), (9, 1, False), (10, 1, False), (9, 0, False),
            (10, 0, False), (10, -1, False), (11, 0, True), (11, -1, False), (12, 1, True), (12, 0, False),
            (13, 1, True), (13, 0, False), (14, 1, True), (14, 0, False), (14, -1, False), (15, 0, False),
            (15, -1, False), (16, 0, False), (16, -1, False),
        ):
            self.assertIn(kind, seen)

    def test_rows_of_calls_on_a_book_of_groups_and_uses(self):
        paths = [DrawingMaker(seed).path() for seed in range(1, 6)]
        start = book(
            [shape(path=paths[0]), group(shape(path=paths[1]), path=paths[2])],
            [use(0), group(use(0, ONE // 2, ONE // 3, -ONE, ONE, 64, -64), path=paths[3])],
            [use(1, -ONE, 5, 7, ONE, 100, 100), use(1), group(use(0), use(1), path=paths[4])],
        )
        for seed in range(20):
            self.check_row(900 + seed, start, ("put", "take", "paint") + ASKED + WATCHED, 40)


if __name__ == "__main__":
    unittest.main()
