"""What is told to those who watch: where a view's cells are others than before."""

from inkpages.layers import cell_layers, layers_of
from inkpages.views import box_around, is_good, window_cells, window_grid

MOST_WATCHED = 4


# Of each view of which something is told: its number, and the box's x, y, w, h.
def told_of_change(watched, before, after):
    told = []
    for number in sorted(watched):
        view = watched[number]
        if is_good(view, before) and is_good(view, after):
            box = changed_box(view, before, after)
            if box:
                told.append(number)
                told.extend(box)
    return told


def changed_box(view, before, after):
    grid = window_grid(view)
    old = layers_of(before, view, grid)
    new = layers_of(after, view, grid)
    # What both begin and end with makes no cell another one: mostly that leaves but the item that was changed.
    begin = shared_beginning(old, new)
    end = shared_beginning(list(reversed(old[begin:])), list(reversed(new[begin:])))
    old = old[begin:len(old) - end]
    new = new[begin:len(new) - end]
    others = [cell for cell in window_cells(view) if seen_in_cell(old, cell) != seen_in_cell(new, cell)]
    return box_around(view, others)


def shared_beginning(old, new):
    shared = 0
    for one, other in zip(old, new):
        if one.covered != other.covered or seen_of_shape(one.shape) != seen_of_shape(other.shape):
            return shared
        shared += 1
    return shared


def seen_in_cell(layers, cell):
    return [(mask, seen_of_shape(layer.shape)) for mask, layer in cell_layers(layers, cell)]


# How deep a shape lies and its order don't matter to what is seen.
def seen_of_shape(shape):
    return (shape.paint, shape.mode, shape.odd)
