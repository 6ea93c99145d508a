"""The calls on one book: one list of numbers in, one list of numbers out.

Each call's function is given the call's whole numbers and then its rows, and gives back its number, its row
and its bytes.
"""

from inkpages.covering import Grid
from inkpages.cursor import WrongByte
from inkpages.layers import cell_layers, layers_of
from inkpages.limits import MOST_BYTES, MOST_SYMBOLS, within_bounds
from inkpages.paints import GREATEST_FORMAT, GREATEST_MODE, GREATEST_PAINT, fits_pixel, painted_pixel
from inkpages.parts import Group, Shape
from inkpages.places import MOST_NUMBERS, find_item, find_list, spliced
from inkpages.reading import read_book, read_single_item
from inkpages.views import View, box_around, cell_grid, is_cell, is_good, window_cells, window_grid
from inkpages.watching import MOST_WATCHED, told_of_change
from inkpages.writing import book_bytes, item_bytes


class Desk:
    def __init__(self):
        self.book = []
        self.watched = {}


# The book is another one now; given back is what those who watch are told.
def change_book(desk, book):
    told = told_of_change(desk.watched, desk.book, book)
    desk.book = book
    return told


def call_read(desk, given):
    data = given[0]
    if len(data) > MOST_BYTES:
        return (-1, [], [])
    try:
        book = read_book(data)
    except WrongByte as e:
        return (-2, [e.place], [])
    if not within_bounds(book):
        return (-3, [], [])
    return (0, change_book(desk, book), [])


def call_write(desk, given):
    return (0, [], book_bytes(desk.book))


def call_symbols(desk, given):
    return (len(desk.book), [], [])


def call_add(desk, given):
    symbols = len(desk.book)
    if symbols >= MOST_SYMBOLS:
        return (-3, [], [])
    book = desk.book + [[]]
    if len(book_bytes(book)) > MOST_BYTES:
        return (-3, [], [])
    desk.book = book
    return (symbols, [], [])


def call_count(desk, given):
    found = find_list(desk.book, given[0])
    if found is None:
        return (-1, [], [])
    return (len(found), [], [])


def call_look(desk, given):
    item = find_item(desk.book, given[0])
    if item is None:
        return (0, [], [])
    if isinstance(item, Shape):
        return (1, [item.odd, item.mode] + list(item.paint), [])
    if isinstance(item, Group):
        return (2, [item.odd, len(item.inner)], [])
    return (3, [item.symbol] + list(item.matrix), [])


def call_bytes(desk, given):
    item = find_item(desk.book, given[0])
    if item is None:
        return (-1, [], [])
    return (0, [], item_bytes(item))


def call_put(desk, given):
    path = given[0]
    data = given[1]
    if len(path) < 2 or len(path) > MOST_NUMBERS or len(data) > MOST_BYTES:
        return (-1, [], [])
    found = find_list(desk.book, path[:-1])
    if found is None or path[-1] > len(found):
        return (-1, [], [])
    try:
        item = read_single_item(data, path[0])
    except WrongByte as e:
        return (-2, [e.place], [])
    book = spliced(desk.book, path, 0, [item])
    if not within_bounds(book):
        return (-3, [], [])
    return (0, change_book(desk, book), [])


def call_take(desk, given):
    path = given[0]
    if find_item(desk.book, path) is None:
        return (0, [], [])
    return (1, change_book(desk, spliced(desk.book, path, 1, [])), [])


def call_paint(desk, given):
    paint = tuple(given[:4])
    mode = given[4]
    path = given[5]
    # Only what is below 0 refuses: so -1 counts wherever it holds, though 0 is told before it.
    if mode > GREATEST_MODE or max(paint) > GREATEST_PAINT:
        return (-1, [], [])
    item = find_item(desk.book, path)
    if not isinstance(item, Shape):
        return (0, [], [])
    painted = Shape(item.odd, mode, paint, item.path)
    return (1, change_book(desk, spliced(desk.book, path, 1, [painted])), [])


def call_draw(desk, given):
    chosen = given[0]
    view = View(given[1])
    pixels = given[2]
    if not is_good(view, desk.book) or chosen > GREATEST_FORMAT or len(pixels) != view.wide * view.high:
        return (-1, [], [])
    if not all([fits_pixel(pixel, chosen) for pixel in pixels]):
        return (-1, [], [])
    layers = layers_of(desk.book, view, window_grid(view))
    painted = []
    for pixel, cell in zip(pixels, window_cells(view)):
        painted.append(painted_pixel(pixel, chosen, cell_layers(layers, cell)))
    return (0, painted, [])


def call_layers(desk, given):
    view = View(given[2])
    if not is_good(view, desk.book) or not is_cell(given[0], given[1]):
        return (-1, [], [])
    found = cell_layers(layers_of(desk.book, view, cell_grid(given[0], given[1])), (0, 0))
    row = []
    for mask, layer in found:
        row.append(mask)
        row.extend(layer.shape.paint)
        row.extend([layer.shape.mode, layer.shape.odd, layer.deep, layer.order])
    return (len(found), row, [])


def call_bounds(desk, given):
    view = View(given[0])
    if not is_good(view, desk.book):
        return (-1, [], [])
    layers = layers_of(desk.book, view, window_grid(view))
    box = box_around(view, [cell for cell in window_cells(view) if cell_layers(layers, cell)])
    return (1 if box else 0, box, [])


def call_hit(desk, given):
    view = View(given[2])
    if not is_good(view, desk.book):
        return (-1, [], [])
    layers = layers_of(desk.book, view, Grid(given[0], given[1], 1, 1))
    if not layers:
        return (0, [], [])
    return (len(layers[-1].numbers), layers[-1].numbers, [])


def call_watch(desk, given):
    if given[0] >= MOST_WATCHED:
        return (-1, [], [])
    desk.watched[given[0]] = View(given[1])
    return (0, [], [])


def call_unwatch(desk, given):
    if given[0] >= MOST_WATCHED:
        return (-1, [], [])
    desk.watched.pop(given[0], None)
    return (0, [], [])


# Of each call how many whole numbers and how many rows it is handed, and its function.
CALLS = {
    1: (0, 1, call_read),
    2: (0, 0, call_write),
    3: (0, 0, call_symbols),
    4: (0, 0, call_add),
    5: (0, 1, call_count),
    6: (0, 1, call_look),
    7: (0, 1, call_bytes),
    8: (0, 2, call_put),
    9: (0, 1, call_take),
    10: (5, 1, call_paint),
    11: (1, 2, call_draw),
    12: (2, 1, call_layers),
    13: (0, 1, call_bounds),
    14: (2, 1, call_hit),
    15: (1, 1, call_watch),
    16: (1, 0, call_unwatch),
}


def answers(calls):
    desk = Desk()
    told = []
    place = 0
    while place < len(calls):
        call = CALLS[calls[place]]
        end = place + 1 + call[0]
        given = calls[place + 1:end]
        place = end
        while len(given) < call[0] + call[1]:
            end = place + 1 + calls[place]
            given.append(calls[place + 1:end])
            place = end
        answer = call[2](desk, given)
        told.extend(counted(answer[0], answer[1], answer[2]))
    return told


def counted(number, row, data):
    flat = [number, len(row)] + row + [len(data)] + data
    return [len(flat)] + flat
