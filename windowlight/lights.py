"""Lights: rows of 32 bands, and rows of lights one behind another; the weights by which they are weighed."""

BANDS = 32
FULL = 65535
# A weight is a number of 16 bits with a sign: from -32,768 to 32,767.
WEIGHTS_END = 32768


def are_within(row, least, greatest):
    """Tell whether each number is from the least to the greatest."""
    for number in row:
        if number < least or number > greatest:
            return False
    return True


def is_light(row):
    return len(row) == BANDS and are_within(row, 0, FULL)


def are_lights(row):
    """Tell whether the row is lights one behind another; an empty row is, of none."""
    return len(row) % BANDS == 0 and are_within(row, 0, FULL)


def are_weights(row):
    return len(row) == BANDS and are_within(row, -WEIGHTS_END, WEIGHTS_END - 1)


def how_many_lights(row):
    return len(row) // BANDS


def light_at(row, k):
    """Light k of a row of lights."""
    return row[BANDS * k:BANDS * (k + 1)]


def lights_of(row):
    """The lights of a row of lights, each by itself."""
    return [light_at(row, k) for k in range(how_many_lights(row))]


def light_through(one, other):
    """Through one light and then the other, each band rounded to the nearest."""
    # FULL is odd, so nothing lies midway between two whole numbers: adding its half, rounded down,
    # lifts just what is nearer to the number above.
    return [(a * b + FULL // 2) // FULL for a, b in zip(one, other)]


def how_far_apart(one, other):
    """The sum of the squares of the two lights' differences, band by band."""
    return sum([(a - b) * (a - b) for a, b in zip(one, other)])


def weighed(weights, light):
    """The sum of weight times band."""
    return sum([weight * band for weight, band in zip(weights, light)])
