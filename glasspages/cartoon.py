"""Cartoons judged: the first rule that's broken, with its place."""

from glasspages.drawing import CARTOON_SIGN, HEAD_BYTES, drawing_of, row_places
from glasspages.layout import entangled_line, open_frame, wrong_line, wrong_point
from glasspages.octets import number_at
from glasspages.panes import crowding_mark, unmarked_pane, wrong_mark
from glasspages.ways import loose_point, parting_point, unreached_point

# Each place, how many bytes the number there has, its least and its most.
HEAD_BOUNDS = (
    (4, 4, 16, 1048575),
    (8, 4, 16, 1048575),
    (12, 2, 4, 4096),
    (14, 2, 4, 8192),
    (16, 2, 1, 2048),
    (18, 2, 0, 0),
)


def head_fault(octets):
    """(rule, place) of the rules 1 to 3, or None."""
    if len(octets) < HEAD_BYTES:
        return (1, len(octets))
    if octets[:4] != list(CARTOON_SIGN):
        return (1, 0)
    for bound in HEAD_BOUNDS:
        number = number_at(octets, bound[0], bound[1])
        if number < bound[2] or number > bound[3]:
            return (2, bound[0])
    if len(octets) != row_places(octets)[3]:
        return (3, HEAD_BYTES)
    return None


def drawing_fault(drawing):
    """(rule, place) of the rules 4 to 13, or None."""
    # Each rule takes it that those before it hold, so the order is more than a matter of places.
    checks = [
        wrong_point, wrong_line, open_frame, entangled_line,
        loose_point, unreached_point, parting_point,
        wrong_mark, crowding_mark, unmarked_pane,
    ]
    for rule, check in enumerate(checks, start=4):
        place = check(drawing)
        if place is not None:
            return (rule, place)
    return None


def cartoon_fault(octets):
    """(rule, place) of the first rule that the bytes break, or None if they are a cartoon."""
    fault = head_fault(octets)
    if fault is not None:
        return fault
    return drawing_fault(drawing_of(octets))
