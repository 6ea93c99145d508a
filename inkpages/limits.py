"""The bounds that a book keeps: depth, spread and size."""

from inkpages.parts import Group, Shape, count_points
from inkpages.writing import book_bytes

MOST_SYMBOLS = 255
MOST_DEPTH = 16
MOST_SHAPES = 64
MOST_POINTS = 512
MOST_BYTES = 4096


def within_bounds(book):
    # A symbol uses only symbols below it: measured from 0 on, each finds what it needs.
    measures = []
    for symbol in book:
        found = measure(symbol, measures)
        if found[0] > MOST_DEPTH or found[1] > MOST_SHAPES or found[2] > MOST_POINTS:
            return False
        measures.append(found)
    return len(book_bytes(book)) <= MOST_BYTES


# Depth, shapes and points of a symbol. By loops: what is measured may be nested too deep.
def measure(symbol, measures):
    depth = 0
    shapes = 0
    points = 0
    waiting = [(1, symbol)]
    while waiting:
        entry = waiting.pop()
        level = entry[0]
        for item in entry[1]:
            own = measure_alone(item, measures)
            depth = max(depth, level - 1 + own[0])
            shapes += own[1]
            points += own[2]
            if isinstance(item, Group):
                waiting.append((level + 1, item.inner))
    return (depth, shapes, points)


# A group is taken without its items here.
def measure_alone(item, measures):
    if isinstance(item, (Shape, Group)):
        return (1, 1, count_points(item.path))
    used = measures[item.symbol]
    return (1 + used[0], used[1], used[2])
