"""The calls on one book: one list of numbers in, one list of numbers out.

Each call's function gives back its number, its row and its bytes.
"""

from inkpages.cursor import WrongByte
from inkpages.parts import Group, Shape
from inkpages.limits import MOST_BYTES, MOST_SYMBOLS, within_bounds
from inkpages.places import MOST_NUMBERS, find_item, find_list, with_list
from inkpages.reading import read_book, read_single_item
from inkpages.writing import book_bytes, item_bytes


class Desk:
    def __init__(self):
        self.book = []


def call_read(desk, rows):
    data = rows[0]
    if len(data) > MOST_BYTES:
        return (-1, [], [])
    try:
        book = read_book(data)
    except WrongByte as e:
        return (-2, [e.place], [])
    if not within_bounds(book):
        return (-3, [], [])
    desk.book = book
    return (0, [], [])


def call_write(desk, rows):
    return (0, [], book_bytes(desk.book))


def call_symbols(desk, rows):
    return (len(desk.book), [], [])


def call_add(desk, rows):
    symbols = len(desk.book)
    if symbols >= MOST_SYMBOLS:
        return (-3, [], [])
    book = desk.book + [[]]
    if len(book_bytes(book)) > MOST_BYTES:
        return (-3, [], [])
    desk.book = book
    return (symbols, [], [])


def call_count(desk, rows):
    found = find_list(desk.book, rows[0])
    if found is None:
        return (-1, [], [])
    return (len(found), [], [])


def call_look(desk, rows):
    item = find_item(desk.book, rows[0])
    if item is None:
        return (0, [], [])
    if isinstance(item, Shape):
        return (1, [item.odd, item.mode] + list(item.paint), [])
    if isinstance(item, Group):
        return (2, [item.odd, len(item.inner)], [])
    return (3, [item.symbol] + list(item.matrix), [])


def call_bytes(desk, rows):
    item = find_item(desk.book, rows[0])
    if item is None:
        return (-1, [], [])
    return (0, [], item_bytes(item))


def call_put(desk, rows):
    path = rows[0]
    data = rows[1]
    if len(path) < 2 or len(path) > MOST_NUMBERS or len(data) > MOST_BYTES:
        return (-1, [], [])
    found = find_list(desk.book, path[:-1])
    if found is None or path[-1] > len(found):
        return (-1, [], [])
    try:
        item = read_single_item(data, path[0])
    except WrongByte as e:
        return (-2, [e.place], [])
    book = with_list(desk.book, path[:-1], found[:path[-1]] + [item] + found[path[-1]:])
    if not within_bounds(book):
        return (-3, [], [])
    desk.book = book
    return (0, [], [])


# Of each call how many rows it is handed, and its function.
CALLS = {
    1: (1, call_read),
    2: (0, call_write),
    3: (0, call_symbols),
    4: (0, call_add),
    5: (1, call_count),
    6: (1, call_look),
    7: (1, call_bytes),
    8: (2, call_put),
}


def answers(calls):
    desk = Desk()
    told = []
    place = 0
    while place < len(calls):
        number = calls[place]
        if number not in CALLS:
            raise NotImplementedError(f"no call {number}")
        call = CALLS[number]
        place += 1
        rows = []
        while len(rows) < call[0]:
            end = place + 1 + calls[place]
            rows.append(calls[place + 1:end])
            place = end
        answer = call[1](desk, rows)
        told.extend(counted(answer[0], answer[1], answer[2]))
    return told


def counted(number, row, data):
    flat = [number, len(row)] + row + [len(data)] + data
    return [len(flat)] + flat
