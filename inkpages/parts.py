"""What a book is made of.

A book is a list of symbols, a symbol a list of items. A path is a list of contours. A contour is a list of
tuples of points: the first has the beginning alone, each further one is a step: its control points and its end.
Nothing of a book is changed once it has been read: an edit makes a new book that shares what stays.
"""

HEAD = (0x69, 0x6E, 0x6B, 0x31)
LEAST_COORDINATE = -4194304
GREATEST_COORDINATE = 4194303
LEAST_FACTOR = -9223372036854775808
GREATEST_FACTOR = 9223372036854775807
LEAST_SHIFT = -2147483648
GREATEST_SHIFT = 2147483647


class Shape:
    def __init__(self, odd, mode, paint, path):
        self.odd = odd
        self.mode = mode
        self.paint = paint
        self.path = path


class Group:
    def __init__(self, odd, path, inner):
        self.odd = odd
        self.path = path
        self.inner = inner


class Use:
    def __init__(self, symbol, matrix):
        self.symbol = symbol
        self.matrix = matrix


def count_points(path):
    total = 0
    for contour in path:
        total += sum([len(points) for points in contour])
    return total
