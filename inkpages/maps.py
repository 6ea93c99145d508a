"""Maps: points go through one after another, rounded and held by each."""

WHOLE = 4294967296
HALF = 2147483648
LEAST_HELD = -1073741824
GREATEST_HELD = 1073741823


# The maps stand in the order in which they are gone through: the innermost use's first, the view's last.
def mapped_contour(contour, maps):
    mapped = []
    for points in contour:
        mapped.append([mapped_point(point, maps) for point in points])
    return mapped


# The maps are not made into one: each rounds for itself.
def mapped_point(point, maps):
    for matrix in maps:
        x = matrix[4] + (matrix[0] * point[0] + matrix[2] * point[1] + HALF) // WHOLE
        y = matrix[5] + (matrix[1] * point[0] + matrix[3] * point[1] + HALF) // WHOLE
        point = (held(x), held(y))
    return point


def held(coordinate):
    return max(LEAST_HELD, min(GREATEST_HELD, coordinate))
