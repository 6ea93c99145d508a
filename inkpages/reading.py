"""From bytes to books and items."""

from inkpages.cursor import Cursor, WrongByte
from inkpages.parts import (
    GREATEST_COORDINATE,
    GREATEST_FACTOR,
    GREATEST_SHIFT,
    HEAD,
    LEAST_COORDINATE,
    LEAST_FACTOR,
    LEAST_SHIFT,
    Group,
    Shape,
    Use,
)


def read_book(data):
    cursor = Cursor(data)
    for value in HEAD:
        cursor.read_byte(value, value)
    symbols = cursor.read_byte(0, 255)
    book = []
    for symbol in range(symbols):
        book.append(read_symbol(cursor, symbol))
    cursor.read_end()
    return book


def read_symbol(cursor, symbol):
    outermost = []
    unfinished = [outermost]
    while unfinished:
        read_entry(cursor, 0, symbol, unfinished)
    return outermost


def read_single_item(data, symbol):
    cursor = Cursor(data)
    outermost = []
    unfinished = [outermost]
    read_entry(cursor, 1, symbol, unfinished)
    while len(unfinished) > 1:
        read_entry(cursor, 0, symbol, unfinished)
    cursor.read_end()
    return outermost[0]


# Groups may lie in one another far deeper than bounds allow before -3 is told: so the lists that
# are still being read are kept in a row, the innermost last, and not in calls within one another.
def read_entry(cursor, least, symbol, unfinished):
    kind = cursor.read_byte(least, 3)
    if kind == 0:
        unfinished.pop()
    elif kind == 1:
        unfinished[-1].append(read_shape(cursor))
    elif kind == 2:
        group = read_group_without_items(cursor)
        unfinished[-1].append(group)
        unfinished.append(group.inner)
    else:
        unfinished[-1].append(read_use(cursor, symbol))


def read_shape(cursor):
    odd_and_mode = cursor.read_byte(0, 7)
    red = cursor.read_byte(0, 255)
    green = cursor.read_byte(0, 255)
    blue = cursor.read_byte(0, 255)
    alpha = cursor.read_byte(0, 255)
    path = read_path(cursor)
    return Shape(odd_and_mode % 2, odd_and_mode // 2, (red, green, blue, alpha), path)


def read_group_without_items(cursor):
    odd = cursor.read_byte(0, 1)
    path = read_path(cursor)
    return Group(odd, path, [])


def read_use(cursor, symbol):
    used = cursor.read_byte(0, symbol - 1)
    matrix = []
    while len(matrix) < 4:
        matrix.append(cursor.read_number(LEAST_FACTOR, GREATEST_FACTOR))
    while len(matrix) < 6:
        matrix.append(cursor.read_number(LEAST_SHIFT, GREATEST_SHIFT))
    return Use(used, tuple(matrix))


def read_path(cursor):
    path = []
    mark = cursor.read_byte(1, 1)
    while mark == 1:
        point = read_point(cursor, (0, 0))
        contour = [(point,)]
        mark = cursor.read_byte(2, 6)
        while mark >= 2:
            step = read_step(cursor, mark, point)
            contour.append(step)
            point = step[-1]
            mark = cursor.read_byte(0, 6)
        path.append(contour)
    return path


def read_step(cursor, mark, point):
    if mark == 2:
        x = read_other_coordinate(cursor, point[0])
        return ((x, read_other_coordinate(cursor, point[1])),)
    if mark == 3:
        return ((read_other_coordinate(cursor, point[0]), point[1]),)
    if mark == 4:
        return ((point[0], read_other_coordinate(cursor, point[1])),)
    points = []
    while len(points) < mark - 3:
        point = read_point(cursor, point)
        points.append(point)
    return tuple(points)


def read_point(cursor, origin):
    x = read_coordinate(cursor, origin[0])
    return (x, read_coordinate(cursor, origin[1]))


def read_coordinate(cursor, origin):
    return origin + cursor.read_number(LEAST_COORDINATE - origin, GREATEST_COORDINATE - origin)


def read_other_coordinate(cursor, origin):
    first = cursor.place
    coordinate = read_coordinate(cursor, origin)
    if coordinate == origin:
        raise WrongByte(first)
    return coordinate
