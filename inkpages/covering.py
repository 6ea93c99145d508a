"""Which places a path covers.

The places asked for are those of a grid. Of each of its rows the answer is one number: bit i is set if the
row's place i is covered.
"""

GAP = 64
PIECES = 16


# The first place is at (x, y); the next ones lie a gap to the right and a gap below.
class Grid:
    def __init__(self, x, y, columns, rows):
        self.x = x
        self.y = y
        self.columns = columns
        self.rows = rows


def covered_rows(contours, odd, grid):
    crossings = [[] for row in range(grid.rows)]
    for contour in contours:
        ring = ring_of(contour)
        p = ring[-1]
        for q in ring:
            add_crossings(crossings, p, q, grid)
            p = q
    return [covered_bits(found, odd, grid.columns) for found in crossings]


def ring_of(contour):
    ring = [contour[0][0]]
    for step in contour[1:]:
        if len(step) == 1:
            ring.append(step[0])
        else:
            ring.extend(curve_points(ring[-1], step))
    return ring


def curve_points(start, step):
    xs = [start[0]] + [point[0] for point in step]
    ys = [start[1]] + [point[1] for point in step]
    if len(step) == 2:
        return [(on_curve_of_one(i, xs), on_curve_of_one(i, ys)) for i in range(1, PIECES + 1)]
    return [(on_curve_of_two(i, xs), on_curve_of_two(i, ys)) for i in range(1, PIECES + 1)]


def on_curve_of_one(i, values):
    j = PIECES - i
    return (j * j * values[0] + 2 * j * i * values[1] + i * i * values[2] + 128) // 256


def on_curve_of_two(i, values):
    j = PIECES - i
    first = j * j * j * values[0] + 3 * j * j * i * values[1]
    second = 3 * j * i * i * values[2] + i * i * i * values[3]
    return (first + second + 2048) // 4096


# In each row that the line crosses: the first place that the line is at or to the left of, and what it counts.
def add_crossings(crossings, p, q, grid):
    dx = q[0] - p[0]
    dy = q[1] - p[1]
    sign = 1 if dy > 0 else -1
    first = max(0, quotient_up(min(p[1], q[1]) - grid.y, GAP))
    end = min(grid.rows, quotient_up(max(p[1], q[1]) - grid.y, GAP))
    for row in range(first, end):
        reach = (p[0] - grid.x) * dy + dx * (grid.y + GAP * row - p[1])
        column = quotient_up(reach, GAP * dy)
        if column < grid.columns:
            crossings[row].append((max(0, column), sign))


def quotient_up(number, divisor):
    return -(-number // divisor)


def covered_bits(crossings, odd, columns):
    bits = 0
    winding = 0
    begin = 0
    for column, sign in sorted(crossings):
        if is_inside(winding, odd):
            bits += bits_between(begin, column)
        winding += sign
        begin = column
    if is_inside(winding, odd):
        bits += bits_between(begin, columns)
    return bits


def is_inside(winding, odd):
    if odd == 1:
        return winding % 2 == 1
    return winding != 0


def bits_between(begin, end):
    return (1 << end) - (1 << begin)
