"""Paths of numbers: where they lead in a book, and the book with other items there."""

from inkpages.parts import Group

MOST_NUMBERS = 17


def find_list(book, path):
    if len(path) < 1 or len(path) > MOST_NUMBERS or path[0] >= len(book):
        return None
    found = book[path[0]]
    for number in path[1:]:
        if number >= len(found) or not isinstance(found[number], Group):
            return None
        found = found[number].inner
    return found


def find_item(book, path):
    if len(path) < 2 or len(path) > MOST_NUMBERS:
        return None
    found = find_list(book, path[:-1])
    if found is None or path[-1] >= len(found):
        return None
    return found[path[-1]]


# The book with other items at the path's end: some are taken from there on, and the new ones stand there.
# The path leads to a place in a list of the book. The book handed in stays as it is.
def spliced(book, path, taken, new):
    found = find_list(book, path[:-1])
    inner = found[:path[-1]] + new + found[path[-1] + taken:]
    for end in range(len(path) - 2, 0, -1):
        around = list(find_list(book, path[:end]))
        group = around[path[end]]
        around[path[end]] = Group(group.odd, group.path, inner)
        inner = around
    changed = list(book)
    changed[path[0]] = inner
    return changed
