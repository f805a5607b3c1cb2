"""Cartoons judged slowly and straight from the words of the rules, to hold the program against.

Nothing here is drawn from the program: crossings are reckoned as fractions, panes by cutting the
frame into upright strips and joining the pieces that touch.
"""

from fractions import Fraction


def little_at(octets, place, size):
    return int.from_bytes(bytes(octets[place:place + size]), "little")


def turn(p, q, r):
    return (q[0] - p[0]) * (r[1] - q[1]) - (q[1] - p[1]) * (r[0] - q[0])


def on(r, p, q):
    inside = all(min(p[k], q[k]) <= r[k] <= max(p[k], q[k]) for k in (0, 1))
    return inside and turn(p, q, r) == 0


def share_inner_point(p, q, r, s):
    """Whether the lines p q and r s have a point in common that's an end of neither."""
    along, other = (q[0] - p[0], q[1] - p[1]), (s[0] - r[0], s[1] - r[1])
    cross = along[0] * other[1] - along[1] * other[0]
    if cross == 0:
        if turn(p, q, r) != 0:
            return False
        axis = 0 if p[0] != q[0] else 1
        low = max(min(p[axis], q[axis]), min(r[axis], s[axis]))
        high = min(max(p[axis], q[axis]), max(r[axis], s[axis]))
        return low < high
    gap = (r[0] - p[0], r[1] - p[1])
    t = Fraction(gap[0] * other[1] - gap[1] * other[0], cross)
    u = Fraction(gap[0] * along[1] - gap[1] * along[0], cross)
    return 0 < t < 1 and 0 < u < 1


class Groups:
    """Things joined into groups."""

    def __init__(self, things):
        self.up = {thing: thing for thing in things}

    def head(self, thing):
        while self.up[thing] != thing:
            thing = self.up[thing]
        return thing

    def join(self, one, other):
        self.up[self.head(one)] = self.head(other)

    def count(self):
        return sum(1 for thing in self.up if self.up[thing] == thing)


def has_gap(low, high, covers):
    """Whether some stretch from low to high is under no cover."""
    for start, end in sorted(covers):
        if start > low:
            break
        low = max(low, end)
    return low < high


class Panes:
    """The panes of a drawing whose lines don't cross and cover the frame."""

    def __init__(self, points, lines):
        self.segments = [tuple(sorted((points[a], points[b]))) for a, b in lines]
        self.cuts = sorted({x for x, y in points})
        self.strips = [self.strip(left, right) for left, right in zip(self.cuts, self.cuts[1:])]
        pieces = [(k, i) for k, strip in enumerate(self.strips) for i in range(len(strip) - 1)]
        self.groups = Groups(pieces)
        for k in range(len(self.strips) - 1):
            self.join_strips(k)

    def height(self, segment, x):
        (ax, ay), (bx, by) = segment
        return ay + Fraction((by - ay) * (x - ax), bx - ax)

    def strip(self, left, right):
        through = [s for s in self.segments if s[0][0] <= left and s[1][0] >= right]
        return sorted(through, key=lambda s: self.height(s, Fraction(left + right, 2)))

    def join_strips(self, k):
        x = self.cuts[k + 1]
        covers = [(s[0][1], s[1][1]) for s in self.segments if s[0][0] == x == s[1][0]]
        here = [self.height(s, x) for s in self.strips[k]]
        there = [self.height(s, x) for s in self.strips[k + 1]]
        for i in range(len(here) - 1):
            for j in range(len(there) - 1):
                low, high = max(here[i], there[j]), min(here[i + 1], there[j + 1])
                if low < high and has_gap(low, high, covers):
                    self.groups.join((k, i), (k + 1, j))

    def of(self, mark):
        k = max(k for k, x in enumerate(self.cuts[:-1]) if x <= mark[0])
        heights = [self.height(s, mark[0]) for s in self.strips[k]]
        i = max(i for i, height in enumerate(heights) if height < mark[1])
        return self.groups.head((k, i))

    def count(self):
        return self.groups.count()


def behind(later, earlier):
    return (later[1], later[0]) > (earlier[1], earlier[0])


def head_rules(octets):
    size = len(octets)
    if size < 20:
        return 1, size
    if bytes(octets[:4]) != b"GLA1":
        return 1, 0
    for place, width, least, most in ((4, 4, 16, 1048575), (8, 4, 16, 1048575), (12, 2, 4, 4096),
                                      (14, 2, 4, 8192), (16, 2, 1, 2048)):
        if not least <= little_at(octets, place, width) <= most:
            return 2, place
    if octets[18] or octets[19]:
        return 2, 18
    p, l, m = (little_at(octets, place, 2) for place in (12, 14, 16))
    if size != 20 + 8 * p + 4 * l + 12 * m:
        return 3, 20
    return None


def frame_broken(width, height, points, lines):
    if not {(0, 0), (width, 0), (0, height), (width, height)} <= set(points):
        return True
    for axis, value in ((1, 0), (1, height), (0, 0), (0, width)):
        row = sorted((pt[1 - axis], k) for k, pt in enumerate(points) if pt[axis] == value)
        for (_, a), (_, b) in zip(row, row[1:]):
            if (min(a, b), max(a, b)) not in lines:
                return True
    return False


def entangled(points, lines, k):
    a, b = lines[k]
    if any(on(pt, points[a], points[b]) for n, pt in enumerate(points) if n not in (a, b)):
        return True
    return any(share_inner_point(points[a], points[b], points[c], points[d]) for c, d in lines[:k])


def parts_others(count, lines, gone):
    groups = Groups([n for n in range(count) if n != gone])
    for a, b in lines:
        if gone not in (a, b):
            groups.join(a, b)
    return groups.count() > 1


def broken(octets):
    """(rule, place) of the first broken rule, or None."""
    fault = head_rules(octets)
    if fault:
        return fault
    width, height = little_at(octets, 4, 4), little_at(octets, 8, 4)
    p, l, m = (little_at(octets, place, 2) for place in (12, 14, 16))
    first_line, first_mark = 20 + 8 * p, 20 + 8 * p + 4 * l
    pair = lambda at, size: (little_at(octets, at, size), little_at(octets, at + size, size))
    points = [pair(20 + 8 * k, 4) for k in range(p)]
    lines = [pair(first_line + 4 * k, 2) for k in range(l)]
    marks = [pair(first_mark + 12 * k, 4) for k in range(m)]
    for k, pt in enumerate(points):
        if pt[0] > width or pt[1] > height or (k and not behind(pt, points[k - 1])):
            return 4, 20 + 8 * k
    for k, (a, b) in enumerate(lines):
        if a >= b or b >= p or (k and lines[k - 1] >= (a, b)):
            return 5, first_line + 4 * k
    if frame_broken(width, height, points, lines):
        return 6, 20
    for k in range(l):
        if entangled(points, lines, k):
            return 7, first_line + 4 * k
    return ways_rules(points, lines) or mark_rules(octets, width, height, points, lines, marks)


def ways_rules(points, lines):
    for k in range(len(points)):
        if sum(k in line for line in lines) < 2:
            return 8, 20 + 8 * k
    groups = Groups(range(len(points)))
    for a, b in lines:
        groups.join(a, b)
    for k in range(len(points)):
        if groups.head(k) != groups.head(0):
            return 9, 20 + 8 * k
    for k in range(len(points)):
        if parts_others(len(points), lines, k):
            return 10, 20 + 8 * k
    return None


def mark_rules(octets, width, height, points, lines, marks):
    first_mark = 20 + 8 * len(points) + 4 * len(lines)
    for k, mark in enumerate(marks):
        outside = not (0 < mark[0] < width and 0 < mark[1] < height)
        if outside or any(on(mark, points[a], points[b]) for a, b in lines):
            return 11, first_mark + 12 * k
        if k and not behind(mark, marks[k - 1]):
            return 11, first_mark + 12 * k
    panes = Panes(points, lines)
    seen = set()
    for k, mark in enumerate(marks):
        if panes.of(mark) in seen:
            return 12, first_mark + 12 * k
        seen.add(panes.of(mark))
    if len(seen) < panes.count():
        return 13, len(octets)
    return None
