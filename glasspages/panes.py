"""The rules 11 to 13 of cartoons: marks and the panes they lie in. Each answers a place, or None.

A step is a pair of points' numbers: a line walked from the first to the second, with a pane to its left.
"""

from glasspages.geometry import comes_behind, is_on, turn


def is_within_frame(drawing, mark):
    if mark[0] <= 0 or mark[0] >= drawing.width:
        return False
    return mark[1] > 0 and mark[1] < drawing.height


def is_on_some_line(drawing, mark):
    for line in drawing.lines:
        if is_on(mark, drawing.points[line[0]], drawing.points[line[1]]):
            return True
    return False


def wrong_mark(drawing):
    """Rule 11: a mark outside the frame, on a line, or out of order."""
    for number, mark in enumerate(drawing.marks):
        if not is_within_frame(drawing, mark) or is_on_some_line(drawing, mark):
            return drawing.mark_place(number)
        if number > 0 and not comes_behind(mark, drawing.marks[number - 1]):
            return drawing.mark_place(number)
    return None


def is_step_below(points, step, mark):
    """Whether the step goes right and passes below the mark, or below what is just right of it."""
    left = points[step[0]]
    right = points[step[1]]
    # Just right of the mark no line ends, so there's no doubt there which line is the nearest.
    return left[0] <= mark[0] and mark[0] < right[0] and turn(left, right, mark) > 0


def is_higher(points, step, other):
    """Whether a step to the right lies above another where both pass."""
    left = points[step[0]]
    right = points[step[1]]
    other_left = points[other[0]]
    other_right = points[other[1]]
    if step[0] == other[0]:
        return turn(other_left, other_right, right) > 0
    if left[0] < other_left[0]:
        return turn(left, right, other_left) < 0
    return turn(other_left, other_right, left) > 0


def step_under(drawing, mark):
    """The step along the line right below the mark, which so has the mark's pane to its left."""
    points = drawing.points
    best = None
    for line in drawing.lines:
        step = line if points[line[0]][0] < points[line[1]][0] else (line[1], line[0])
        if is_step_below(points, step, mark) and (best is None or is_higher(points, step, best)):
            best = step
    return best


def side(number):
    """1 for the left, 0 for straight on, -1 for the right."""
    if number > 0:
        return 1
    return -1 if number < 0 else 0


def is_further_left(points, step, one, other):
    """Whether going on from the step to the one point bears more to the left than to the other."""
    back = points[step[0]]
    here = points[step[1]]
    one_side = side(turn(back, here, points[one]))
    other_side = side(turn(back, here, points[other]))
    if one_side != other_side:
        return one_side > other_side
    return turn(here, points[other], points[one]) > 0


def step_after(points, beside, step):
    """The step that goes on along the outline of the pane to the left: the leftmost but the way back."""
    best = None
    for number in beside[step[1]]:
        if number != step[0] and (best is None or is_further_left(points, step, number, best)):
            best = number
    return (step[1], best)


def outline(points, beside, first):
    """The steps round the pane to the left of the first."""
    steps = [first]
    step = step_after(points, beside, first)
    while step != first:
        steps.append(step)
        step = step_after(points, beside, step)
    return steps


def crowding_mark(drawing):
    """Rule 12: a mark in a pane that has a mark before it."""
    beside = drawing.neighbours()
    taken = {}
    for number, mark in enumerate(drawing.marks):
        first = step_under(drawing, mark)
        if first in taken:
            return drawing.mark_place(number)
        for step in outline(drawing.points, beside, first):
            taken[step] = True
    return None


def unmarked_pane(drawing):
    """Rule 13: a pane without a mark."""
    # All hangs together by rule 9, so Euler's count of the panes holds; by rule 12 none has two marks.
    panes = len(drawing.lines) - len(drawing.points) + 1
    if len(drawing.marks) < panes:
        return drawing.byte_count()
    return None
