"""Views: a symbol, a map and a window of cells."""

from inkpages.covering import Grid
from inkpages.parts import (
    GREATEST_FACTOR,
    GREATEST_SHIFT,
    LEAST_FACTOR,
    LEAST_SHIFT,
)

LEAST_CELL = -4194304
GREATEST_CELL = 4194303
MOST_CELLS = 8
CELL = 256
# Where a cell's first sample lies in it, and how many samples it has on each side.
MARGIN = 32
SAMPLES = 4


class View:
    def __init__(self, numbers):
        self.symbol = numbers[0]
        self.matrix = tuple(numbers[1:7])
        self.x = numbers[7]
        self.y = numbers[8]
        self.wide = numbers[9]
        self.high = numbers[10]


def is_good(view, book):
    if not is_from(view.symbol, 0, len(book) - 1):
        return False
    if not all([is_from(factor, LEAST_FACTOR, GREATEST_FACTOR) for factor in view.matrix[:4]]):
        return False
    if not all([is_from(shift, LEAST_SHIFT, GREATEST_SHIFT) for shift in view.matrix[4:]]):
        return False
    return is_good_side(view.x, view.wide) and is_good_side(view.y, view.high)


def is_good_side(begin, length):
    return is_from(length, 0, MOST_CELLS) and begin >= LEAST_CELL and begin + length <= GREATEST_CELL + 1


def is_cell(x, y):
    return is_from(x, LEAST_CELL, GREATEST_CELL) and is_from(y, LEAST_CELL, GREATEST_CELL)


def is_from(number, least, greatest):
    return number >= least and number <= greatest


# The window's cells row by row, as they are counted from the window's own first cell.
def window_cells(view):
    cells = []
    for line in range(view.high):
        cells.extend([(column, line) for column in range(view.wide)])
    return cells


def window_grid(view):
    return samples_grid(view.x, view.y, view.wide, view.high)


def cell_grid(x, y):
    return samples_grid(x, y, 1, 1)


def samples_grid(x, y, wide, high):
    return Grid(CELL * x + MARGIN, CELL * y + MARGIN, SAMPLES * wide, SAMPLES * high)


# The least box that has all these cells of the view's window: x, y, w, h; nothing if there are none.
def box_around(view, cells):
    if not cells:
        return []
    columns = [cell[0] for cell in cells]
    lines = [cell[1] for cell in cells]
    wide = max(columns) - min(columns) + 1
    high = max(lines) - min(lines) + 1
    return [view.x + min(columns), view.y + min(lines), wide, high]
