"""Rows of calls against a model that keeps the book as its bytes alone, and edits it by splicing them."""

import random
import unittest

from tests.helper import (
    ADD, HEAD, SYMBOLS, WRITE, book, contour, count, group, item_bytes, look, nested, put, read, run, shape, step, use,
)

STRAIGHT = {2: (1, 1), 3: (1, 0), 4: (0, 1)}


class Wrong(Exception):
    pass


class Node:
    """An item, or a symbol: where its bytes begin and end, and what it tells."""

    def __init__(self, begin):
        self.begin = begin
        self.children = []
        self.seen = None
        self.contours = []
        self.used = None

    def points(self):
        return sum(len(points) for contour in self.contours for points in contour)


class Parser:
    def __init__(self, data):
        self.data = data
        self.at = 0

    def byte(self, allowed):
        if self.at == len(self.data):
            raise Wrong(self.at)
        if self.data[self.at] not in allowed:
            raise Wrong(self.at)
        self.at += 1
        return self.data[self.at - 1]

    def number(self, allowed):
        begin = self.at
        row = self.data[begin:begin + 10]
        ends = [k for k, byte in enumerate(row) if byte < 128]
        if not ends:
            raise Wrong(begin if len(row) == 10 else len(self.data))
        row = row[:ends[0] + 1]
        u = sum((byte & 127) * 128 ** k for k, byte in enumerate(row))
        z = -(u // 2) - 1 if u & 1 else u // 2
        if (len(row) > 1 and row[-1] == 0) or z not in allowed:
            raise Wrong(begin)
        self.at += len(row)
        return z

    def path(self):
        """A list of contours; a contour is a list of the points of its beginning and of each step."""
        contours = []
        coordinates = range(-4194304, 4194304)
        mark = self.byte([1])
        while mark:
            if mark == 1:
                at = [0, 0]
                contours.append([])
            contours[-1].append([])
            for _ in range({5: 2, 6: 3}.get(mark, 1)):
                for axis in (0, 1):
                    if mark in STRAIGHT and not STRAIGHT[mark][axis]:
                        continue
                    begin = self.at
                    d = self.number(range(-4194304 - at[axis], 4194304 - at[axis]))
                    if mark in STRAIGHT and d == 0:
                        raise Wrong(begin)
                    at[axis] += d
                    assert at[axis] in coordinates
                contours[-1][-1].append(tuple(at))
            mark = self.byte(range(2, 7) if mark == 1 else range(7))
        return contours

    def item(self, kind, symbol):
        node = Node(self.at - 1)
        if kind == 1:
            second = self.byte(range(8))
            paint = [self.byte(range(256)) for _ in range(4)]
            node.contours = self.path()
            node.seen = (1, [second & 1, second >> 1] + paint, [])
        elif kind == 2:
            odd = self.byte(range(2))
            node.contours = self.path()
            node.children = self.items(symbol)
            node.seen = (2, [odd, len(node.children)], [])
        else:
            node.used = self.byte(range(symbol))
            matrix = [self.number(range(-2 ** 63, 2 ** 63)) for _ in range(4)]
            matrix += [self.number(range(-2 ** 31, 2 ** 31)) for _ in range(2)]
            node.seen = (3, [node.used] + matrix, [])
        node.end = self.at
        return node

    def items(self, symbol):
        nodes = []
        kind = self.byte(range(4))
        while kind:
            nodes.append(self.item(kind, symbol))
            kind = self.byte(range(4))
        return nodes

    def end(self):
        if self.at < len(self.data):
            raise Wrong(self.at)


def parse_book(data):
    parser = Parser(data)
    for value in HEAD:
        parser.byte([value])
    roots = []
    for symbol in range(parser.byte(range(256))):
        root = Node(parser.at)
        root.children = parser.items(symbol)
        root.end = parser.at
        roots.append(root)
    parser.end()
    return roots


def parse_item(data, symbol):
    parser = Parser(data)
    parser.item(parser.byte(range(1, 4)), symbol)
    parser.end()


def unfold(node, roots):
    """Depth, shapes and points of a node, through all uses."""
    within = roots[node.used].children if node.used is not None else node.children
    parts = [unfold(child, roots) for child in within]
    own = 0 if node.used is not None else 1
    return (
        1 + max([part[0] for part in parts], default=0),
        own + sum(part[1] for part in parts),
        node.points() + sum(part[2] for part in parts),
    )


def is_within(roots, data):
    for root in roots:
        parts = [unfold(child, roots) for child in root.children]
        if max([part[0] for part in parts], default=0) > 16:
            return False
        if sum(part[1] for part in parts) > 64 or sum(part[2] for part in parts) > 512:
            return False
    return len(data) <= 4096


class Model:
    def __init__(self):
        self.data = book()

    def find(self, path):
        if not 1 <= len(path) <= 17:
            return None
        node = Node(0)
        node.children = parse_book(self.data)
        for place in path:
            if place >= len(node.children):
                return None
            node = node.children[place]
        return node

    def find_list(self, path):
        node = self.find(path)
        return node if node and (len(path) == 1 or node.seen[0] == 2) else None

    def read(self, data):
        if len(data) > 4096:
            return (-1, [], [])
        try:
            roots = parse_book(data)
        except Wrong as e:
            return (-2, [e.args[0]], [])
        if not is_within(roots, data):
            return (-3, [], [])
        self.data = data
        return (0, [], [])

    def write(self):
        return (0, [], self.data)

    def symbols(self):
        return (self.data[4], [], [])

    def add(self):
        if self.data[4] == 255 or len(self.data) == 4096:
            return (-3, [], [])
        self.data = HEAD + [self.data[4] + 1] + self.data[5:] + [0]
        return (self.data[4] - 1, [], [])

    def count(self, *path):
        node = self.find_list(path)
        return (len(node.children) if node else -1, [], [])

    def look(self, *path):
        node = self.find(path)
        return node.seen if node and node.seen else (0, [], [])

    def item_bytes(self, *path):
        node = self.find(path)
        return (0, [], self.data[node.begin:node.end]) if node and node.seen else (-1, [], [])

    def put(self, path, data):
        around = self.find_list(path[:-1])
        if len(path) > 17 or around is None or path[-1] > len(around.children) or len(data) > 4096:
            return (-1, [], [])
        try:
            parse_item(data, path[0])
        except Wrong as e:
            return (-2, [e.args[0]], [])
        behind = path[-1] == len(around.children)
        at = around.end - 1 if behind else around.children[path[-1]].begin
        spliced = self.data[:at] + data + self.data[at:]
        if not is_within(parse_book(spliced), spliced):
            return (-3, [], [])
        self.data = spliced
        return (0, [], [])


class Maker:
    """Books, items, paths and wrong bytes, the same each time for one seed."""

    def __init__(self, seed):
        self.dice = random.Random(seed)

    def number(self, least, greatest):
        near = self.dice.choice((1, 70, 9000, 2 ** 20, 2 ** 40, 2 ** 63))
        return min(greatest, max(least, self.dice.randint(-near, near)))

    def contour(self):
        begin = [self.number(-4194304, 4194303), self.number(-4194304, 4194303)]
        at = list(begin)
        steps = []
        for _ in range(self.dice.randint(1, 4)):
            mark = self.dice.randint(2, 6)
            zs = []
            for _ in range({5: 2, 6: 3}.get(mark, 1)):
                for axis in (0, 1):
                    if mark not in STRAIGHT or STRAIGHT[mark][axis]:
                        z = self.number(-4194304 - at[axis], 4194303 - at[axis])
                        if mark in STRAIGHT and z == 0:
                            z = -1 if at[axis] > 0 else 1
                        zs.append(z)
                        at[axis] += z
            steps.append(step(mark, *zs))
        return contour(*begin, *steps)

    def path(self):
        return sum([self.contour() for _ in range(self.dice.choice((1, 1, 2)))], []) + [0]

    def item(self, symbol, room=3):
        kind = self.dice.choice((1, 2, 2, 3) if symbol else (1, 2))
        if kind == 1:
            paint = [self.dice.randrange(256) for _ in range(4)]
            return shape(self.dice.randrange(2), self.dice.randrange(4), paint, self.path())
        if kind == 2:
            inner = [self.item(symbol, room - 1) for _ in range(self.dice.randrange(3) if room else 0)]
            return group(*inner, odd=self.dice.randrange(2), path=self.path())
        factors = [self.number(-2 ** 63, 2 ** 63 - 1) for _ in range(4)]
        shifts = [self.number(-2 ** 31, 2 ** 31 - 1) for _ in range(2)]
        return use(self.dice.randrange(symbol), *factors, *shifts)

    def book(self):
        symbols = self.dice.randint(0, 5)
        return book(*[[self.item(k) for _ in range(self.dice.randrange(4))] for k in range(symbols)])

    def spoilt(self, data):
        """One byte is another, one more, one less, or the bytes end early; or all is as it was."""
        if self.dice.random() < 0.6:
            return data
        at = self.dice.randrange(len(data))
        byte = self.dice.choice((0, 1, 2, 3, 4, 6, 7, 8, 127, 128, 129, 255, self.dice.randrange(256)))
        return self.dice.choice((
            data[:at] + [byte] + data[at + 1:], data[:at] + [byte] + data[at:],
            data[:at] + data[at + 1:], data[:at], data + [byte],
        ))

    def somewhere(self, model):
        """A path that leads to a symbol or an item, or to nothing."""
        path = []
        nodes = parse_book(model.data)
        while nodes and self.dice.random() < 0.8:
            path.append(self.dice.randrange(len(nodes)))
            nodes = nodes[path[-1]].children
        return path + self.astray(nodes)

    def place_in_list(self, model):
        """A path for put: before an item or behind the last, or to no place."""
        path = []
        nodes = parse_book(model.data)
        lists = list(range(len(nodes)))
        while lists and self.dice.random() < 0.8:
            path.append(self.dice.choice(lists))
            nodes = nodes[path[-1]].children
            lists = [k for k, node in enumerate(nodes) if node.seen[0] == 2]
        return path + [self.dice.randint(0, len(nodes))] + self.astray(nodes)

    def astray(self, nodes):
        return [self.dice.choice((0, 1, len(nodes), 2 ** 64 - 1))] if self.dice.random() < 0.1 else []

    def call(self, model, kinds):
        """A call's numbers, and what the model answers."""
        kind = self.dice.choice(kinds)
        if kind == "read":
            data = self.spoilt(self.book())
            return read(data), model.read(data)
        if kind == "put":
            path = self.place_in_list(model)
            item = self.item(path[0]) if path[0] < 256 else shape()
            data = self.spoilt(item)
            return put(path, data), model.put(path, data)
        if kind == "add":
            return ADD, model.add()
        if kind == "write":
            return WRITE, model.write()
        path = self.somewhere(model)
        call, answer = {
            "count": (count, model.count), "look": (look, model.look), "bytes": (item_bytes, model.item_bytes),
        }[kind]
        return call(*path), answer(*path)


EDITS = ("add", "count", "look", "bytes", "put", "put", "put", "put", "write")


class TestAgainstModel(unittest.TestCase):
    def check_row(self, seed, first, kinds):
        maker = Maker(seed)
        model = Model()
        pairs = [(read(first), model.read(first))]
        self.assertEqual(pairs[0][1][0], 0)
        while len(pairs) < 40:
            pairs.append(maker.call(model, kinds))
        pairs.append((SYMBOLS, model.symbols()))
        pairs.append((WRITE, model.write()))
        told = run(*[pair[0] for pair in pairs])
        for k, pair in enumerate(pairs):
            self.assertEqual(told[k], pair[1], (seed, k, pair[0]))
        return told

    def test_rows_of_calls(self):
        numbers = set()
        for seed in range(150):
            numbers |= {answer[0] for answer in self.check_row(seed, book(), EDITS + ("read",))}
        self.assertLessEqual({-2, -1, 0, 1, 2, 3}, numbers)

    def test_rows_of_calls_near_the_bounds(self):
        near = book([shape()] * 6, [nested(12, use(0)), use(0)], [use(1)] * 2, [group(use(1))])
        past = 0
        for seed in range(50):
            past += sum(answer[0] == -3 for answer in self.check_row(seed, near, EDITS))
        self.assertGreater(past, 100)

    def test_every_byte_changed(self):
        for seed in range(3):
            maker = Maker(1000 + seed)
            data = book([maker.item(0, 1)], [maker.item(1, 1), use(0)])
            for at in range(len(data)):
                for byte in (0, 1, 2, 3, 4, 5, 6, 7, 8, 127, 128, 129, 255):
                    changed = data[:at] + [byte] + data[at + 1:]
                    self.assertEqual(run(read(changed), WRITE)[0], Model().read(changed), changed)


if __name__ == "__main__":
    unittest.main()
