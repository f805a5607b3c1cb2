"""For each rule of cartoons, and each of workshops, bytes that break it, with the place."""

from tests.builder import RUN_LINES, RUN_MARKS, cartoon, drawn, frame, path, put, run, workshop
from tests.parts import full_parts, octets_of

CORNERED = path((0, 0), (5, 5), (10, 5), (0, 0))
ISLAND = path((5, 5), (10, 5), (5, 10), (5, 5))


def broken_cartoons():
    """(rule, bytes, place) for the rules 1 to 13."""
    lines_with_slant = sorted(RUN_LINES + [(0, 4)])
    return [
        (1, cartoon()[:19], 19),
        (1, put(cartoon(), 3, 1, 50), 0),
        (2, put(cartoon(), 4, 4, 15), 4),
        (2, put(cartoon(), 18, 1, 1), 18),
        (3, cartoon() + [0], 20),
        (3, cartoon()[:-1], 20),
        (4, put(cartoon(), 28, 4, 31), 28),
        (5, put(cartoon(), 62, 2, 0), 60),
        (6, cartoon(lines=RUN_LINES[1:]), 20),
        (7, cartoon(lines=lines_with_slant), 76),
        (8, cartoon(lines=[line for line in RUN_LINES if line not in [(1, 2), (2, 3)]]), 36),
        (9, drawn(30, 20, frame(30, 20) + ISLAND, [(15, 15)]), 36),
        (10, drawn(30, 20, frame(30, 20) + CORNERED, [(15, 15)]), 20),
        (11, put(cartoon(), 92, 4, 0), 88),
        (12, cartoon(marks=[(14, 2, 0, 0)] + RUN_MARKS), 100),
        (13, cartoon(marks=RUN_MARKS[:2]), 112),
    ]


def broken_workshops():
    """(rule, bytes, place) for the rules 1 to 7, the cartoons that are none among them."""
    full = octets_of(full_parts())
    kinds = 204 + 3 * 16
    coats = kinds + 4 * 8 + 2 * 64 + 64
    listed = [
        (1, [], 0),
        (1, run()[:79], 79),
        (1, put(run(), 0, 1, 70), 0),
        (2, put(run(), 12, 4, 0), 12),
        (2, put(run(), 52, 4, 256), 52),
        (2, put(run(), 56, 4, 1025), 56),
        (3, run() + [0], 4),
        (3, run()[:-1], 4),
        (5, put(full, 204 + 16 + 12, 4, 2), 220),
        (6, put(full, kinds + 8, 4, 1401), kinds + 8),
        (7, put(full, coats, 1, 0), coats),
        (7, put(full, coats + 1, 1, 4), coats + 1),
        (7, put(full, coats + 69 + 2, 1, 0), coats + 69 + 2),
        (7, put(full, coats + 4, 1, 1), coats + 4),
    ]
    return listed + [(4, workshop(octets), 80 + place) for rule, octets, place in broken_cartoons()]
