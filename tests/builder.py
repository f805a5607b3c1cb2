"""Builds the bytes of cartoons and workshops that the tests hand in."""

RUN_POINTS = [(0, 0), (30, 0), (10, 10), (0, 20), (30, 20)]
RUN_LINES = [(0, 1), (0, 2), (0, 3), (1, 2), (1, 4), (2, 3), (3, 4)]
RUN_MARKS = [(15, 2, 5, 0), (2, 10, 6, 0), (20, 15, 7, 0)]
RUN_SHEETS = [(7, 40, 30, 0), (5, 12, 50, 1), (6, 12, 22, 0)]
RUN_NUMBERS = [1, 1, 1, 3, 5, 1, 1, 60, 2, 1, 1, 7]


def little(value, size):
    return list(value.to_bytes(size, "little"))


def put(octets, place, size, value):
    """A copy with another number at the place."""
    return octets[:place] + little(value, size) + octets[place + size:]


def cartoon(width=30, height=20, points=RUN_POINTS, lines=RUN_LINES, marks=RUN_MARKS):
    octets = list(b"GLA1") + little(width, 4) + little(height, 4)
    for count in (len(points), len(lines), len(marks)):
        octets += little(count, 2)
    octets += [0, 0]
    for x, y in points:
        octets += little(x, 4) + little(y, 4)
    for one, other in lines:
        octets += little(one, 2) + little(other, 2)
    for mark in marks:
        glass, painting = mark[2:] if len(mark) == 4 else (0, 0)
        octets += little(mark[0], 4) + little(mark[1], 4) + little(glass, 2) + little(painting, 2)
    return octets


def glass(band=65535):
    return little(band, 2) * 32


def painting(count, kinds, band=0):
    """A painting with that byte for how many coats and those four bytes behind it."""
    return little(band, 2) * 32 + [count] + list(kinds)


def workshop(drawn=None, sheets=(), kinds=(), glasses=(), paintings=(), shelf=1000, numbers=RUN_NUMBERS):
    """A workshop, of the run's numbers if not told otherwise; glasses and paintings are bytes already."""
    drawn = cartoon() if drawn is None else drawn
    octets = list(b"GLAW") + little(len(drawn), 4)
    for value in numbers:
        octets += little(value, 4)
    for rows in (sheets, kinds, glasses, paintings):
        octets += little(len(rows), 4)
    octets += little(shelf, 8) + drawn
    for row in list(sheets) + list(kinds):
        for value in row:
            octets += little(value, 4)
    for row in list(glasses) + list(paintings):
        octets += row
    return octets


def run():
    """The run of the document."""
    return workshop(sheets=RUN_SHEETS)


def numbered(points, pairs):
    """Points in their order, and lines between pairs of points as pairs of numbers in their order."""
    ordered = sorted(set(points), key=lambda point: (point[1], point[0]))
    number = {point: index for index, point in enumerate(ordered)}
    lines = sorted({tuple(sorted((number[one], number[other]))) for one, other in pairs})
    return ordered, lines


def drawn(width, height, pairs, marks, points=()):
    """The cartoon of lines told by their ends, with marks put in order."""
    ends = [end for pair in pairs for end in pair]
    ordered, lines = numbered(ends + list(points), pairs)
    return cartoon(width, height, ordered, lines, sorted(marks, key=lambda mark: (mark[1], mark[0])))


def path(*points):
    """The lines along a row of points."""
    return list(zip(points, points[1:]))


def frame(width, height, *more):
    """The lines of the frame, parted at the points of its edges that are given besides its corners."""
    lines = []
    corners = [(0, 0), (width, 0), (0, height), (width, height)]
    points = set(corners) | set(more)
    for axis, value in ((1, 0), (1, height), (0, 0), (0, width)):
        lines += path(*sorted(point for point in points if point[axis] == value))
    return lines
