"""What a cartoon's bytes draw: points, lines between them, and marks."""

from glasspages.octets import number_at

CARTOON_SIGN = (0x47, 0x4C, 0x41, 0x31)
HEAD_BYTES = 20
POINT_BYTES = 8
LINE_BYTES = 4
MARK_BYTES = 12


class Drawing:
    """Points and marks as pairs (x, y), lines as pairs of the numbers of points."""

    def __init__(self, width, height, points, lines, marks):
        self.width = width
        self.height = height
        self.points = points
        self.lines = lines
        self.marks = marks

    def point_place(self, number):
        return HEAD_BYTES + POINT_BYTES * number

    def line_place(self, number):
        return self.point_place(len(self.points)) + LINE_BYTES * number

    def mark_place(self, number):
        return self.line_place(len(self.lines)) + MARK_BYTES * number

    def byte_count(self):
        return self.mark_place(len(self.marks))

    def neighbours(self):
        """For each point the numbers of those that a line joins it with."""
        beside = [[] for point in self.points]
        for line in self.lines:
            beside[line[0]].append(line[1])
            beside[line[1]].append(line[0])
        return beside


def pairs_at(octets, place, step, count, size):
    """As many pairs of numbers of that size, a step apart, the first of them at the place."""
    pairs = []
    for number in range(count):
        start = place + step * number
        pairs.append((number_at(octets, start, size), number_at(octets, start + size, size)))
    return pairs


def row_places(octets):
    """Where the points, the lines and the marks begin, and where these end, as their counts tell."""
    lines = HEAD_BYTES + POINT_BYTES * number_at(octets, 12, 2)
    marks = lines + LINE_BYTES * number_at(octets, 14, 2)
    return (HEAD_BYTES, lines, marks, marks + MARK_BYTES * number_at(octets, 16, 2))


def drawing_of(octets):
    """The drawing of bytes that are as many as their counts tell."""
    places = row_places(octets)
    return Drawing(
        number_at(octets, 4, 4),
        number_at(octets, 8, 4),
        pairs_at(octets, places[0], POINT_BYTES, number_at(octets, 12, 2), 4),
        pairs_at(octets, places[1], LINE_BYTES, number_at(octets, 14, 2), 2),
        pairs_at(octets, places[2], MARK_BYTES, number_at(octets, 16, 2), 4),
    )
