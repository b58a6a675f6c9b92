"""A cartoon's bytes: rules 1 to 3, and the drawing that bytes of the right length tell."""

SIGN = (71, 76, 65, 49)
HEAD_BYTES = 20
POINT_BYTES = 8
LINE_BYTES = 4
MARK_BYTES = 12

# Rule 2, one row a number of the head: its place, how many bytes it has, its least and greatest value.
HEAD_NUMBERS = (
    (4, 4, 16, 1048575),
    (8, 4, 16, 1048575),
    (12, 2, 4, 4096),
    (14, 2, 4, 8192),
    (16, 2, 1, 2048),
    (18, 2, 0, 0),
)


class Drawing:
    """The frame, the points (x, y), the lines (two points' numbers), the marks (x, y, glass, painting)."""

    def __init__(self, width, height, points, lines, marks):
        self.width = width
        self.height = height
        self.points = points
        self.lines = lines
        self.marks = marks

    def place_of_point(self, k):
        return HEAD_BYTES + POINT_BYTES * k

    def place_of_line(self, k):
        return self.place_of_point(len(self.points)) + LINE_BYTES * k

    def place_of_mark(self, k):
        return self.place_of_line(len(self.lines)) + MARK_BYTES * k

    def place_of_end(self):
        return self.place_of_mark(len(self.marks))


def number_at(cartoon, place, size):
    """The number of so many bytes at a place, its lowest byte first."""
    number = 0
    for byte in reversed(cartoon[place:place + size]):
        number = 256 * number + byte
    return number


def told_length(cartoon):
    """How many bytes there must be by what the head tells."""
    points = number_at(cartoon, 12, 2)
    lines = number_at(cartoon, 14, 2)
    marks = number_at(cartoon, 16, 2)
    return HEAD_BYTES + POINT_BYTES * points + LINE_BYTES * lines + MARK_BYTES * marks


def fault_of_bytes(cartoon):
    """The first of rules 1 to 3 that is broken, and its place; None if none is."""
    if len(cartoon) < HEAD_BYTES:
        return (1, len(cartoon))
    if cartoon[:4] != list(SIGN):
        return (1, 0)
    for place, size, least, greatest in HEAD_NUMBERS:
        if not least <= number_at(cartoon, place, size) <= greatest:
            return (2, place)
    if len(cartoon) != told_length(cartoon):
        return (3, HEAD_BYTES)
    return None


def read_point(cartoon, place):
    return (number_at(cartoon, place, 4), number_at(cartoon, place + 4, 4))


def read_line(cartoon, place):
    return (number_at(cartoon, place, 2), number_at(cartoon, place + 2, 2))


def read_mark(cartoon, place):
    return read_point(cartoon, place) + read_line(cartoon, place + 8)


def read_drawing(cartoon):
    """The drawing of bytes that break none of rules 1 to 3."""
    first_line = HEAD_BYTES + POINT_BYTES * number_at(cartoon, 12, 2)
    first_mark = first_line + LINE_BYTES * number_at(cartoon, 14, 2)
    points = [read_point(cartoon, place) for place in range(HEAD_BYTES, first_line, POINT_BYTES)]
    lines = [read_line(cartoon, place) for place in range(first_line, first_mark, LINE_BYTES)]
    marks = [read_mark(cartoon, place) for place in range(first_mark, len(cartoon), MARK_BYTES)]
    return Drawing(number_at(cartoon, 4, 4), number_at(cartoon, 8, 4), points, lines, marks)
