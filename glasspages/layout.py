"""The rules 4 to 7 of cartoons: how points and lines stand. Each answers a place, or None."""

from glasspages.drawing import HEAD_BYTES
from glasspages.geometry import comes_behind, crosses, is_on


def wrong_point(drawing):
    """Rule 4: a point outside the frame, or out of order."""
    for number, point in enumerate(drawing.points):
        if point[0] > drawing.width or point[1] > drawing.height:
            return drawing.point_place(number)
        if number > 0 and not comes_behind(point, drawing.points[number - 1]):
            return drawing.point_place(number)
    return None


def line_comes_behind(later, earlier):
    if later[0] != earlier[0]:
        return later[0] > earlier[0]
    return later[1] > earlier[1]


def wrong_line(drawing):
    """Rule 5: a line whose ends aren't two points in order, or that is out of order itself."""
    for number, line in enumerate(drawing.lines):
        if line[0] >= line[1] or line[1] >= len(drawing.points):
            return drawing.line_place(number)
        if number > 0 and not line_comes_behind(line, drawing.lines[number - 1]):
            return drawing.line_place(number)
    return None


def lacks_corner(drawing):
    corners = [(0, 0), (drawing.width, 0), (0, drawing.height), (drawing.width, drawing.height)]
    return any([corner not in drawing.points for corner in corners])


def edge_rows(drawing):
    """The numbers of the points on each of the four edges."""
    places = list(enumerate(drawing.points))
    return [
        [number for number, point in places if point[1] == 0],
        [number for number, point in places if point[1] == drawing.height],
        [number for number, point in places if point[0] == 0],
        [number for number, point in places if point[0] == drawing.width],
    ]


def open_frame(drawing):
    """Rule 6: a corner that is no point, or an edge that lines don't cover."""
    if lacks_corner(drawing):
        return HEAD_BYTES
    joined = {}
    for line in drawing.lines:
        joined[line] = True
    for row in edge_rows(drawing):
        # By rule 4 the numbers grow along an edge, so those next in the row are next on the edge.
        for one, other in zip(row, row[1:]):
            if (one, other) not in joined:
                return HEAD_BYTES
    return None


def holds_point(drawing, line):
    """Whether a point other than its ends is on the line."""
    start = drawing.points[line[0]]
    end = drawing.points[line[1]]
    # By rule 4 what is on a line comes behind its first end and before its second.
    for point in drawing.points[line[0] + 1:line[1]]:
        if is_on(point, start, end):
            return True
    return False


def crosses_earlier(drawing, number):
    line = drawing.lines[number]
    start = drawing.points[line[0]]
    end = drawing.points[line[1]]
    for other in drawing.lines[:number]:
        if crosses(start, end, drawing.points[other[0]], drawing.points[other[1]]):
            return True
    return False


def entangled_line(drawing):
    """Rule 7: a line that has a point on it, or that crosses one before it."""
    # Of two lines in one row with more than an end in common, one has an end of the other on it:
    # if that's the earlier, its place is the least; else the later is found by that point.
    for number, line in enumerate(drawing.lines):
        if holds_point(drawing, line) or crosses_earlier(drawing, number):
            return drawing.line_place(number)
    return None
