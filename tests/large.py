"""Cartoons as large as are asked: nets and crowds of 200 points."""

from tests.builder import cartoon, drawn, frame, numbered, path
from tests.parts import run_parts

COLUMNS, ROWS, STEP = 20, 10, 10


def grid_pairs():
    """The lines of a net of 200 points, each field of it parted by a slant."""
    pairs = []
    for x in range(0, COLUMNS * STEP, STEP):
        for y in range(0, ROWS * STEP, STEP):
            pairs += [((x, y), (x + STEP, y)), ((x, y), (x, y + STEP)), ((x, y), (x + STEP, y + STEP))]
    far = ((COLUMNS - 1) * STEP, (ROWS - 1) * STEP)
    return [pair for pair in pairs if pair[1][0] <= far[0] and pair[1][1] <= far[1]]


def grid_marks():
    fields = [(x, y) for x in range(0, (COLUMNS - 1) * STEP, STEP) for y in range(0, (ROWS - 1) * STEP, STEP)]
    return [(x + 7, y + 2) for x, y in fields] + [(x + 2, y + 7) for x, y in fields]


def grid(marks=None, more=()):
    return drawn(190, 90, grid_pairs() + list(more), grid_marks() if marks is None else marks)


def grid_parts(**changed):
    """The net with the run's numbers, some of its parts changed."""
    points, lines = numbered([end for pair in grid_pairs() for end in pair], grid_pairs())
    marks = [(x, y, 65535, 0) for x, y in sorted(grid_marks(), key=lambda mark: (mark[1], mark[0]))]
    return run_parts(**{"width": 190, "height": 90, "points": points, "lines": lines, "marks": marks, **changed})


def free_places():
    """Places within the net that are on none of its lines, in the order of marks."""
    return [(x, y) for y in range(1, 90) for x in range(1, 190) if x % 10 and y % 10 and x % 10 != y % 10]


def grid_pane(place):
    return place[0] // STEP, place[1] // STEP, place[0] % STEP > place[1] % STEP


def crowded_cartoon():
    """200 points, no three of those within the frame in a row, and as many lines and marks as there may be."""
    points = [(0, 0), (1000, 0)] + [(500 + n * n % 499, 2 * n + 1) for n in range(196)] + [(0, 1000), (1000, 1000)]
    lines = [(a, b) for a in range(200) for b in range(a + 1, 200)]
    kept = lines[:8191] + [(198, 199)]
    marks = [(x, y) for y in range(1, 3) for x in range(1, 1000)] + [(x, 3) for x in range(1, 51)]
    return cartoon(1000, 1000, points, kept, marks)


FAN_POINTS, FAN_STEP, FAN_WIDTH = 196, 10, 1000


def fan_cartoon():
    """200 points, and as many lines and panes as a cartoon of so many can have."""
    middle = FAN_WIDTH // 2
    height = FAN_STEP * (FAN_POINTS + 1)
    row = [(middle, FAN_STEP * number) for number in range(1, FAN_POINTS + 1)]
    pairs = frame(FAN_WIDTH, height) + path(*row)
    marks = [(middle, 1), (middle, height - 1)]
    for side in (0, FAN_WIDTH):
        beside = middle - 1 if side == 0 else middle + 1
        pairs += [((side, 0), point) for point in row] + [((side, height), row[-1])]
        marks += [(beside, y + FAN_STEP // 2) for x, y in row[:-1]] + [(1 if side == 0 else FAN_WIDTH - 1, height // 2)]
    return drawn(FAN_WIDTH, height, pairs, marks)
