"""The rules 8 to 10 of cartoons: how lines hang together. Each answers a place, or None."""

NO_POINT = -1


def loose_point(drawing):
    """Rule 8: a point that is the end of fewer than two lines."""
    for number, others in enumerate(drawing.neighbours()):
        if len(others) < 2:
            return drawing.point_place(number)
    return None


def reached(beside, start, barred):
    """The points to which a way goes from the start, but not through the barred one."""
    found = {start: True}
    waiting = [start]
    while len(waiting) > 0:
        here = waiting.pop()
        for there in beside[here]:
            if there != barred and there not in found:
                found[there] = True
                waiting.append(there)
    return found


def unreached_point(drawing):
    """Rule 9: a point from which no way goes to point 0."""
    found = reached(drawing.neighbours(), 0, NO_POINT)
    for number in range(len(drawing.points)):
        if number not in found:
            return drawing.point_place(number)
    return None


def parting_point(drawing):
    """Rule 10: a point without which some two others have no way between them."""
    beside = drawing.neighbours()
    for number in range(len(drawing.points)):
        start = 1 if number == 0 else 0
        if len(reached(beside, start, number)) < len(drawing.points) - 1:
            return drawing.point_place(number)
    return None
