"""Paint: layers onto a pixel, channel by channel."""

GREATEST_PAINT = 255
GREATEST_MODE = 3
GREATEST_FORMAT = 3
MOST_WEIGHT = 4080
SAMPLES_OF_A_CELL = 16
# Of each format: how many bits a pixel has, and its channels: the lowest bit, the greatest number, and the
# colour (0 red, 1 green, 2 blue, 3 grey).
FORMATS = (
    (32, ((0, 255, 2), (8, 255, 1), (16, 255, 0))),
    (16, ((0, 31, 2), (5, 63, 1), (11, 31, 0))),
    (32, ((0, 1023, 2), (10, 1023, 1), (20, 1023, 0))),
    (8, ((0, 255, 3),)),
)


def fits_pixel(pixel, chosen):
    return pixel >> FORMATS[chosen][0] == 0


# Each layer stands behind its mask.
def painted_pixel(pixel, chosen, layers):
    for mask, layer in layers:
        paint = layer.shape.paint
        weight = count_bits(mask) * paint[3]
        for lowest, greatest, colour in FORMATS[chosen][1]:
            old = (pixel >> lowest) & greatest
            own = (colour_of(paint, colour) * greatest + 127) // 255
            aim = mixed(layer.shape.mode, old, own, greatest)
            new = (old * (MOST_WEIGHT - weight) + aim * weight + MOST_WEIGHT // 2) // MOST_WEIGHT
            pixel += (new - old) << lowest
    return pixel


def count_bits(mask):
    return sum([(mask >> sample) & 1 for sample in range(SAMPLES_OF_A_CELL)])


def colour_of(paint, colour):
    if colour == 3:
        return (77 * paint[0] + 150 * paint[1] + 29 * paint[2] + 128) // 256
    return paint[colour]


def mixed(mode, old, own, greatest):
    if mode == 0:
        return own
    if mode == 1:
        return (old * own + greatest // 2) // greatest
    if mode == 2:
        return max(old, own)
    return abs(old - own)
