"""Workshops told by their parts: as bytes and as pages, both made without the program.

Parts are a dict: width, height, points, lines, marks (x, y, glass, painting), numbers (the twelve from cut
to ways), shelf, sheets, kinds, glasses (32 bands each), paintings (32 bands, then the coats' kinds).
"""

from tests.builder import (
    RUN_LINES, RUN_MARKS, RUN_NUMBERS, RUN_POINTS, RUN_SHEETS, cartoon, little, workshop,
)

KINDS = [(1400, 9999), (900, 10), (9, 0), (1, 9)]


def run_parts(**changed):
    """The parts of the document's run, some of them changed."""
    told = {
        "width": 30, "height": 20, "points": RUN_POINTS, "lines": RUN_LINES, "marks": RUN_MARKS,
        "numbers": RUN_NUMBERS, "shelf": 1000, "sheets": RUN_SHEETS, "kinds": [], "glasses": [], "paintings": [],
    }
    assert set(changed) <= set(told)
    told.update(changed)
    return told


def full_parts(**changed):
    """Some of everything, no two numbers of a line alike where they may differ."""
    paintings = [
        (list(range(100, 132)), [3]), (list(range(32)), [0, 2]), ([65535] * 32, [0, 1, 3]),
        (list(range(65535, 0, -2048)), [0, 1, 2, 3]),
    ]
    told = {
        "marks": [(15, 2, 65535, 1), (2, 10, 0, 65534), (20, 15, 256, 255)],
        "numbers": [999, 1000, 10, 9, 65535, 0, 1, 16777215, 100, 65534, 65533, 255],
        "shelf": 2 ** 64 - 1,
        "sheets": [(65535, 16777215, 1, 1), (0, 9, 10, 0), (1, 2, 3, 1)],
        "kinds": KINDS,
        "glasses": [list(range(5, 37)), [0] * 31 + [65535]],
        "paintings": paintings,
    }
    told.update(changed)
    return run_parts(**told)


def small_parts(**changed):
    """One of each line but points and lines, in few signs."""
    told = {
        "width": 16, "height": 20, "points": [(0, 0), (16, 0), (0, 20), (16, 20)],
        "lines": [(0, 1), (0, 2), (1, 3), (2, 3)], "marks": [(8, 9, 1, 0)],
        "numbers": [0, 1, 2, 3, 4, 5, 6, 7, 8, 9, 10, 11],
        "shelf": 0, "sheets": [(0, 1, 2, 1)], "kinds": [(8, 0), (7, 9)],
        "glasses": [[0, 1, 2, 3] * 8], "paintings": [([9, 8, 7, 0] * 8, [0, 1])],
    }
    told.update(changed)
    return run_parts(**told)


def bands(numbers):
    assert len(numbers) == 32
    return [octet for number in numbers for octet in little(number, 2)]


def octets_of(parts):
    drawn = cartoon(parts["width"], parts["height"], parts["points"], parts["lines"], parts["marks"])
    paintings = [
        bands(row) + [len(kinds)] + list(kinds) + [0] * (4 - len(kinds)) for row, kinds in parts["paintings"]
    ]
    return workshop(
        drawn, parts["sheets"], parts["kinds"], [bands(row) for row in parts["glasses"]], paintings,
        parts["shelf"], parts["numbers"],
    )


def rows_of(parts):
    """The page's lines, each a word and its numbers."""
    numbers = parts["numbers"]
    rows = [("workshop",), ("window", parts["width"], parts["height"])]
    rows += [("point", *row) for row in parts["points"]]
    rows += [("line", *row) for row in parts["lines"]]
    rows += [("pane", *row) for row in parts["marks"]]
    rows += [("cut", *numbers[:5]), ("lead", *numbers[5:10]), ("margin", numbers[10]), ("ways", numbers[11])]
    rows += [("shelf", parts["shelf"])]
    rows += [("sheet", *row) for row in parts["sheets"]]
    rows += [("kind", *row) for row in parts["kinds"]]
    rows += [("glass", *row) for row in parts["glasses"]]
    for row, kinds in parts["paintings"]:
        rows += [("paint", *row), ("coats", *kinds)]
    return rows + [("end",)]


def text_of(rows):
    return "".join(" ".join(map(str, row)) + "\n" for row in rows).encode()


def page_of(parts):
    return list(text_of(rows_of(parts)))
