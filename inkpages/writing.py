"""From books and items to their bytes."""

from inkpages.parts import HEAD, Group, Shape


def book_bytes(book):
    out = list(HEAD)
    out.append(len(book))
    for symbol in book:
        write_waiting(out, with_end(symbol))
    return out


def item_bytes(item):
    out = []
    write_waiting(out, [item])
    return out


# What is still to be written, the next last; None stands for the 0 that ends a list of items.
def with_end(inner):
    waiting = [None]
    waiting.extend(list(reversed(inner)))
    return waiting


def write_waiting(out, waiting):
    while waiting:
        item = waiting.pop()
        if item is None:
            out.append(0)
        elif isinstance(item, Shape):
            out.extend([1, item.odd + 2 * item.mode])
            out.extend(item.paint)
            write_path(out, item.path)
        elif isinstance(item, Group):
            out.extend([2, item.odd])
            write_path(out, item.path)
            waiting.extend(with_end(item.inner))
        else:
            out.extend([3, item.symbol])
            for value in item.matrix:
                write_number(out, value)


def write_path(out, path):
    for contour in path:
        point = contour[0][0]
        out.append(1)
        write_number(out, point[0])
        write_number(out, point[1])
        for step in contour[1:]:
            write_step(out, point, step)
            point = step[-1]
    out.append(0)


def write_step(out, point, step):
    if len(step) == 1:
        write_straight_step(out, step[0][0] - point[0], step[0][1] - point[1])
        return
    out.append(len(step) + 3)
    for target in step:
        write_number(out, target[0] - point[0])
        write_number(out, target[1] - point[1])
        point = target


def write_straight_step(out, dx, dy):
    if dy == 0:
        out.append(3)
        write_number(out, dx)
    elif dx == 0:
        out.append(4)
        write_number(out, dy)
    else:
        out.append(2)
        write_number(out, dx)
        write_number(out, dy)


def write_number(out, value):
    folded = 2 * value if value >= 0 else -2 * value - 1
    while folded >= 128:
        out.append(folded % 128 + 128)
        folded = folded // 128
    out.append(folded)
