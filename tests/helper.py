"""What the tests share: bytes built by hand, calls handed over, answers taken apart."""

from inkpages.desk import answers

HEAD = [0x69, 0x6E, 0x6B, 0x31]


def number(z):
    u = z * 2 if z >= 0 else (-z) * 2 - 1
    sevens = [u & 127]
    while u >> 7:
        u >>= 7
        sevens[-1] |= 128
        sevens.append(u & 127)
    return sevens


def numbers(*zs):
    return [byte for z in zs for byte in number(z)]


def contour(x, y, *steps):
    return [1] + numbers(x, y) + [byte for step in steps for byte in step]


def step(mark, *zs):
    return [mark] + numbers(*zs)


LINE = contour(0, 0, step(3, 1)) + [0]


def polygon(*points):
    """The contour through these points, by straight lines that aren't 0 long; the last line is the closing one."""
    steps = []
    for (px, py), (qx, qy) in zip(points, points[1:]):
        dx, dy = qx - px, qy - py
        steps.append(step(2, dx, dy) if dx and dy else step(3, dx) if dx else step(4, dy))
    return contour(*points[0], *steps)


def box(x, y, w, h):
    """A path: the rectangle in units, from (x, y) on to the right and down."""
    return polygon((x, y), (x + w, y), (x + w, y + h), (x, y + h)) + [0]


def cells(x, y, w=1, h=1):
    """A path: the rectangle that has just these cells."""
    return box(256 * x, 256 * y, 256 * w, 256 * h)


def line_of(points):
    return [1, 0, 0] + [3, 2, 3, 1] * ((points - 1) // 2) + [3, 2] * ((points - 1) % 2) + [0]


def shape(odd=0, mode=0, paint=(1, 2, 3, 4), path=LINE):
    return [1, odd + 2 * mode] + list(paint) + list(path)


def group(*inner, odd=0, path=LINE):
    return [2, odd] + list(path) + [byte for item in inner for byte in item] + [0]


ONE = 2 ** 32
SAME = (ONE, 0, 0, ONE, 0, 0)


def use(symbol, *matrix):
    return [3, symbol] + numbers(*(matrix or SAME))


def moved(symbol, dx, dy):
    """A use that moves by so many units."""
    return use(symbol, ONE, 0, 0, ONE, dx, dy)


def view(symbol=0, matrix=SAME, window=(0, 0, 1, 1)):
    return [symbol, *matrix, *window]


def book(*symbols):
    return HEAD + [len(symbols)] + [byte for items in symbols for item in items + [[0]] for byte in item]


def nested(depth, innermost=None):
    """depth groups, one in another, around an item or nothing."""
    item = group() if innermost is None else group(innermost)
    for _ in range(depth - 1):
        item = group(item)
    return item


def read(data):
    return [1, len(data)] + data


WRITE = [2]
SYMBOLS = [3]
ADD = [4]


def count(*path):
    return [5, len(path)] + list(path)


def look(*path):
    return [6, len(path)] + list(path)


def item_bytes(*path):
    return [7, len(path)] + list(path)


def put(path, data):
    return [8, len(path)] + list(path) + [len(data)] + data


def take(*path):
    return [9, len(path)] + list(path)


def paint(path, r, g, b, a, mode):
    return [10, r, g, b, a, mode, len(path)] + list(path)


def draw(pixel_format, seen, pixels):
    return [11, pixel_format, len(seen)] + seen + [len(pixels)] + pixels


def layers(cx, cy, seen):
    return [12, cx, cy, len(seen)] + seen


def bounds(seen):
    return [13, len(seen)] + seen


def hit(sx, sy, seen):
    return [14, sx, sy, len(seen)] + seen


def watch(k, seen):
    return [15, k, len(seen)] + seen


def unwatch(k):
    return [16, k]


def run(*calls):
    """Each call's answer: number, row, bytes. The counts of the flat list are looked at on the way."""
    flat = answers([value for call in calls for value in call])
    told = []
    at = 0
    for _ in calls:
        length = flat[at]
        answer = flat[at + 1:at + 1 + length]
        if len(answer) != length or any(type(value) is not int for value in answer):
            raise AssertionError(answer)
        row = answer[2:2 + answer[1]]
        rest = answer[2 + answer[1]:]
        if len(row) != answer[1] or rest[0] != len(rest) - 1:
            raise AssertionError(answer)
        told.append((answer[0], row, rest[1:]))
        at += 1 + length
    if at != len(flat):
        raise AssertionError(flat[at:])
    return told


def last(*calls):
    return run(*calls)[-1]


def wrong(place):
    return (-2, [place], [])


OK = (0, [], [])
REFUSED = (-1, [], [])
PAST_BOUNDS = (-3, [], [])
