"""The program held against the slow judge on drawings made at random from fixed seeds."""

import random
import unittest

from tests import reference
from tests.asked import cartoon_fault, judge
from tests.builder import cartoon, frame, numbered, put, workshop


def random_drawing(rng):
    """A drawing within a small frame whose lines mostly don't cross."""
    width, height = rng.randint(16, 19), rng.randint(16, 19)
    inner = {(rng.randint(0, width), rng.randint(0, height)) for _ in range(rng.randint(0, 9))}
    on_edge = [pt for pt in inner if pt[0] in (0, width) or pt[1] in (0, height)]
    framing = frame(width, height, *on_edge)
    points, lines = numbered(inner | {end for pair in framing for end in pair}, framing)
    pairs = [(a, b) for b in range(len(points)) for a in range(b) if (a, b) not in lines]
    rng.shuffle(pairs)
    triangle = rng.sample(range(len(points)), 3)
    if rng.random() < 0.3:
        # A triangle first and few lines behind it: so parts hang free, or at one point only.
        pairs = [(a, b) for a, b in pairs if a in triangle and b in triangle] + pairs[:2]
    for pair in pairs[:rng.choice((2, 6, 20, 100))]:
        if not reference.entangled(points, lines + [pair], len(lines)):
            lines.append(pair)
    return width, height, points, drop_loose(rng, points, sorted(lines))


def drop_loose(rng, points, lines):
    """Most times take away, again and again, the lines that end at a point with no other line."""
    while rng.random() < 0.9:
        counts = [sum(k in line for line in lines) for k in range(len(points))]
        kept = [line for line in lines if all(counts[end] > 1 for end in line)]
        if kept == lines:
            break
        lines = kept
    used = {end for line in lines for end in line}
    if rng.random() < 0.9 and len(used) < len(points):
        left = [pt for k, pt in enumerate(points) if k in used]
        lines = [(left.index(points[a]), left.index(points[b])) for a, b in lines]
        points[:] = left
    return lines


def random_marks(rng, width, height, points, lines):
    """Most times one mark to each pane that has room for one."""
    free = [(x, y) for y in range(1, height) for x in range(1, width)
            if not any(reference.on((x, y), points[a], points[b]) for a, b in lines)]
    rng.shuffle(free)
    if reference.frame_broken(width, height, points, lines) or rng.random() < 0.1:
        return free[:rng.randint(1, 5)]
    panes, chosen = reference.Panes(points, lines), {}
    for mark in free:
        chosen.setdefault(panes.of(mark), mark)
    return list(chosen.values())


def random_row(rng, rows, points, lines):
    if rows is lines and rng.random() < 0.9:
        return tuple(sorted(rng.sample(range(len(points)), 2)))
    return (rng.randint(0, 19), rng.randint(0, 19))


def spoil_lists(rng, points, lines, marks):
    """Change one thing of the lists at random."""
    rows = rng.choice((points, lines, lines, marks))
    what = rng.choice((0, 1, 1, 2, 3))
    if what == 0 and rows:
        rows.pop(rng.randrange(len(rows)))
    elif what == 1:
        rows.append(random_row(rng, rows, points, lines))
        if rng.random() < 0.9:
            rows.sort(key=(lambda row: row) if rows is lines else (lambda row: (row[1], row[0])))
    elif what == 2 and len(rows) > 1:
        k = rng.randrange(len(rows) - 1)
        rows[k], rows[k + 1] = rows[k + 1], rows[k]
    elif rows:
        rows[rng.randrange(len(rows))] = random_row(rng, rows, points, lines)


def random_cartoon(rng):
    width, height, points, lines = random_drawing(rng)
    marks = random_marks(rng, width, height, points, lines)
    marks.sort(key=lambda mark: (mark[1], mark[0]))
    if rng.random() < 0.5:
        spoil_lists(rng, points, lines, marks)
    octets = cartoon(width, height, points, lines, marks)
    if rng.random() < 0.1:
        octets = put(octets, rng.randrange(len(octets)), 1, rng.randrange(256))
    if rng.random() < 0.02:
        octets = octets[:rng.randrange(len(octets))]
    return octets


class AgainstReference(unittest.TestCase):
    def test_random_cartoons(self):
        told = {}
        for seed in range(2500):
            octets = random_cartoon(random.Random(seed))
            fault = reference.broken(octets)
            with self.subTest(seed=seed):
                self.assertEqual(cartoon_fault(octets), fault)
                self.assertEqual(judge(workshop(octets)), [0] if fault is None else [-5, 4, 80 + fault[1]])
            rule = 0 if fault is None else fault[0]
            told[rule] = told.get(rule, 0) + 1
        # Were some rule not told a few times, this test would show less than it seems to.
        for rule in range(14):
            self.assertGreaterEqual(told.get(rule, 0), 10, (rule, told))


if __name__ == "__main__":
    unittest.main()
