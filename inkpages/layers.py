"""The shapes of a view in their order, each with the places of a grid that it covers.

All that is drawn or told of a view is taken from here.
"""

from inkpages.covering import covered_rows
from inkpages.maps import mapped_contour
from inkpages.parts import Group, Shape, Use
from inkpages.views import SAMPLES

ALL_OF_A_ROW = 15


# The numbers lead to the shape from the view's symbol on.
class Layer:
    def __init__(self, shape, covered, numbers, order):
        self.shape = shape
        self.covered = covered
        self.numbers = numbers
        # Each group and each use around the shape has a number too, behind the symbol's.
        self.deep = len(numbers) - 1
        self.order = order


class Walk:
    def __init__(self, book, grid):
        self.book = book
        self.grid = grid
        self.has_paths = symbols_with_paths(book)
        self.shapes = 0
        self.layers = []


def layers_of(book, view, grid):
    walk = Walk(book, grid)
    everywhere = [(1 << grid.columns) - 1] * grid.rows
    walk_items(walk, book[view.symbol], [view.matrix], everywhere, [view.symbol])
    return walk.layers


# Of each symbol whether it has a shape or a group, itself or through uses.
def symbols_with_paths(book):
    found = []
    for symbol in book:
        found.append(any([not isinstance(item, Use) or found[item.symbol] for item in symbol]))
    return found


# A book within bounds is at most 16 deep, so these calls lie in one another no deeper.
def walk_items(walk, inner, maps, clip, numbers):
    for number, item in enumerate(inner):
        here = numbers + [number]
        if isinstance(item, Shape):
            walk_shape(walk, item, maps, clip, here)
        elif isinstance(item, Group):
            walk_items(walk, item.inner, maps, cut(walk, item, maps, clip), here)
        elif walk.has_paths[item.symbol]:
            # How many uses lead to no path isn't bounded: they may be more than can be walked, and give nothing.
            walk_items(walk, walk.book[item.symbol], [item.matrix] + maps, clip, here)


def walk_shape(walk, shape, maps, clip, numbers):
    covered = cut(walk, shape, maps, clip)
    if any(covered):
        walk.layers.append(Layer(shape, covered, numbers, walk.shapes))
    walk.shapes += 1


# What the item's path covers of the places in the clip.
def cut(walk, item, maps, clip):
    if not any(clip):
        return clip
    contours = [mapped_contour(contour, maps) for contour in item.path]
    covered = covered_rows(contours, item.odd, walk.grid)
    return [bits & kept for bits, kept in zip(covered, clip)]


# Of a cell of the grid's: each layer that it has, with its mask there before it.
def cell_layers(layers, cell):
    found = []
    for layer in layers:
        mask = cell_mask(layer.covered, cell)
        if mask > 0:
            found.append((mask, layer))
    return found


def cell_mask(covered, cell):
    mask = 0
    for line in range(SAMPLES):
        bits = covered[SAMPLES * cell[1] + line] >> (SAMPLES * cell[0])
        mask += (bits & ALL_OF_A_ROW) << (SAMPLES * line)
    return mask
