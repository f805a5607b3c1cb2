"""Drawings whose panes are hard to tell apart, and such as are large."""

import unittest

from tests import reference
from tests.asked import cartoon_fault, judge
from tests.builder import drawn, frame, glass, little, painting, path, workshop
from tests.large import crowded_cartoon, free_places, grid, grid_marks, grid_pane


class DrawingCase(unittest.TestCase):
    def assert_told(self, octets, fault):
        self.assertEqual(cartoon_fault(octets), fault)
        self.assertEqual(judge(workshop(octets)), [0] if fault is None else [-5, 4, 80 + fault[1]])

    def assert_panes(self, width, height, pairs, marks, crowd):
        """With these marks it's a cartoon; with one more, or one fewer, it's none."""
        octets = drawn(width, height, pairs, marks)
        self.assert_told(octets, None)
        for gone in marks:
            fewer = [mark for mark in marks if mark != gone]
            if fewer:
                self.assert_told(drawn(width, height, pairs, fewer), (13, len(octets) - 12))
        for one, other in crowd:
            ordered = sorted(marks + [other], key=lambda mark: (mark[1], mark[0]))
            later = max(ordered.index(one), ordered.index(other))
            octets = drawn(width, height, pairs, ordered)
            self.assert_told(octets, (12, len(octets) - 12 * (len(ordered) - later)))


class Panes(DrawingCase):
    def test_frame_alone(self):
        self.assert_panes(16, 16, frame(16, 16), [(8, 8)], [((8, 8), (1, 1)), ((8, 8), (15, 15))])

    def test_pane_beside_many_others_and_straight_on(self):
        tops = [(x, 100) for x in range(5, 100, 5)]
        feet = [(x, 50) for x in range(0, 101, 5)]
        pairs = frame(100, 100, *tops, (0, 50), (100, 50)) + path(*feet)
        pairs += [((x, 50), (x, 100)) for x in range(5, 100, 5)]
        marks = [(50, 25)] + [(x + 2, 75) for x in range(0, 100, 5)]
        self.assert_panes(100, 100, pairs, marks, [((50, 25), (1, 49)), ((50, 25), (99, 1)), ((2, 75), (4, 99))])

    def test_pane_round_about_which_others_lie(self):
        ring = [(20, 10), (40, 10), (50, 20), (50, 40), (40, 50), (20, 50), (10, 40), (10, 20)]
        edge = [(20, 0), (40, 0), (60, 20), (60, 40), (40, 60), (20, 60), (0, 40), (0, 20)]
        pairs = frame(60, 60, *edge) + path(*ring, ring[0]) + list(zip(ring, edge))
        marks = [(30, 30), (30, 5), (55, 5), (55, 30), (55, 55), (30, 55), (5, 55), (5, 30), (5, 5)]
        crowd = [((30, 30), (20, 11)), ((30, 30), (40, 49)), ((55, 55), (46, 46)), ((5, 5), (1, 19))]
        self.assert_panes(60, 60, pairs, marks, crowd)

    def test_pane_on_three_sides_of_another(self):
        pairs = frame(30, 20, (10, 20), (20, 20)) + path((10, 20), (10, 5), (20, 5), (20, 20))
        self.assert_panes(30, 20, pairs, [(15, 10), (5, 15)], [((5, 15), (25, 15)), ((5, 15), (15, 3))])

    def test_winding_pane(self):
        # Walls stand from below and hang from above by turns, so one pane winds through between them.
        walls = [(4 * n, 0 if n % 2 else 40) for n in range(1, 20, 2)] + [(4 * n, 40) for n in range(2, 20, 2)]
        edge = [point for x, y in walls for point in ((x, y), (x + 2, y))]
        pairs = frame(84, 40, *edge)
        for x, y in walls:
            inner = 40 - 5 if y == 0 else 5
            pairs += path((x, y), (x, inner), (x + 2, inner), (x + 2, y))
        marks = [(1, 20)] + [(x + 1, 20) for x, y in walls]
        crowd = [((1, 20), (83, 1)), ((1, 20), (83, 39)), ((1, 20), (43, 20)), ((5, 20), (5, 34))]
        self.assert_panes(84, 40, pairs, marks, crowd)

    def test_mark_right_above_and_below_points(self):
        pairs = frame(40, 40) + [((20, 20), corner) for corner in ((0, 0), (40, 0), (0, 40), (40, 40))]
        marks = [(20, 5), (5, 20), (35, 20), (20, 35)]
        crowd = [((20, 35), (20, 21)), ((20, 5), (20, 19)), ((5, 20), (1, 2)), ((35, 20), (39, 38))]
        self.assert_panes(40, 40, pairs, marks, crowd)

    def test_many_lines_to_one_point(self):
        tops = [(x, 40) for x in range(5, 40, 5)]
        pairs = frame(40, 40, *tops) + [((20, 10), top) for top in tops]
        pairs += [((20, 10), corner) for corner in ((0, 0), (40, 0), (0, 40), (40, 40))]
        marks = [(x + 2, 39) for x in range(0, 40, 5)] + [(20, 1), (1, 20), (39, 20)]
        crowd = [((20, 1), (20, 9)), ((17, 39), (18, 30)), ((22, 39), (22, 30)), ((1, 20), (5, 5))]
        self.assert_panes(40, 40, pairs, marks, crowd)

    def test_outline_straight_on_at_slanting_lines(self):
        pairs = frame(40, 40) + path((0, 0), (10, 10), (20, 20), (40, 40)) + path((10, 10), (10, 20), (20, 20))
        self.assert_panes(40, 40, pairs, [(30, 5), (12, 18), (5, 30)], [((30, 5), (39, 38)), ((5, 30), (11, 21))])

    def test_points_next_to_lines(self):
        # The bend at (1,10) is below the line over it, the one at (39,31) above the line under it, both just so.
        pairs = frame(40, 40, (0, 5), (40, 5), (0, 10), (40, 11), (0, 30), (40, 31), (0, 36), (40, 36))
        pairs += path((0, 5), (1, 10), (40, 5)) + [((0, 10), (40, 11)), ((0, 30), (40, 31))]
        pairs += path((0, 36), (39, 31), (40, 36))
        marks = [(20, 2), (20, 9), (20, 20), (20, 32), (20, 39)]
        crowd = [((20, 9), (39, 10)), ((20, 20), (1, 11)), ((20, 20), (39, 30)), ((20, 39), (39, 32)), ((20, 2), (1, 9))]
        self.assert_panes(40, 40, pairs, marks, crowd)

    def test_far_corners_of_the_largest_frame(self):
        side = 1048575
        pairs = frame(side, side) + path((0, 0), (side - 2, side - 1), (side, side))
        # The bend lies above the slant from corner to corner, by the least there can be.
        marks = [(side - 1, 1), (1, side - 1)]
        crowd = [((1, side - 1), (1, 2)), ((side - 1, 1), (side - 1, side - 2)), ((side - 1, 1), (5, 5))]
        self.assert_panes(side, side, pairs, marks, crowd)

    def test_no_whole_numbers_in_a_thin_pane(self):
        pairs = frame(30, 20) + path((0, 0), (1, 1), (2, 1), (0, 0)) + [((2, 1), (30, 0)), ((1, 1), (0, 20))]
        # Neither this triangle nor the one below it nor the one to its left holds any.
        octets = drawn(30, 20, pairs, [(5, 5)])
        self.assert_told(octets, (13, len(octets)))


class Large(DrawingCase):
    def test_net_of_200_points(self):
        octets = grid()
        self.assertEqual(octets[12:18], little(200, 2) + little(541, 2) + little(342, 2))
        self.assert_told(octets, None)

    def test_net_without_one_mark(self):
        octets = grid(grid_marks()[:-1])
        self.assert_told(octets, (13, len(octets)))

    def test_net_with_2048_marks(self):
        marks = free_places()[:2048]
        octets = grid(marks)
        seen = set()
        for number, mark in enumerate(marks):
            if grid_pane(mark) in seen:
                break
            seen.add(grid_pane(mark))
        self.assert_told(octets, (12, 20 + 1600 + 4 * 541 + 12 * number))

    def test_net_with_the_last_of_2048_marks_wrong(self):
        marks = free_places()[:2047] + [(189, 90)]
        octets = grid(marks)
        self.assert_told(octets, (11, len(octets) - 12))

    def test_net_with_a_mark_too_many(self):
        octets = grid(grid_marks() + [(188, 83)])
        self.assert_told(octets, (12, mark_place(octets, (188, 83))))

    def test_net_with_a_crossing_at_its_end(self):
        more = [((190, 80), (180, 90))]
        octets = grid(more=more)
        # Behind the line from point 179 to 198 stand 179 199 and the nineteen of the upper edge.
        self.assert_told(octets, (7, 20 + 1600 + 4 * (542 - 1 - 1 - 19)))

    def test_zigzag_through_200_points(self):
        bends = [(0, 10)] + [(x, 5 if x % 2 else 15) for x in range(1, 195)] + [(195, 10)]
        pairs = frame(195, 20, (0, 10), (195, 10)) + path(*bends)
        self.assert_panes(195, 20, pairs, [(1, 1), (1, 19)], [((1, 1), (194, 1)), ((1, 19), (97, 19))])

    def test_counts_of_two_bytes(self):
        # More points than are asked, so that each count's higher byte tells something.
        bends = [(0, 10)] + [(x, 5 if x % 2 else 15) for x in range(1, 300)] + [(300, 10)]
        pairs = frame(300, 20, (0, 10), (300, 10)) + path(*bends)
        self.assert_panes(300, 20, pairs, [(1, 1), (1, 19)], [((1, 1), (299, 1))])

    def test_200_points_and_8192_lines(self):
        octets = crowded_cartoon()
        self.assertEqual(octets[12:18], little(200, 2) + little(8192, 2) + little(2048, 2))
        self.assert_told(octets, reference.broken(octets))

    def test_100000_numbers(self):
        for octets, answer in [
            ([0] * 100000, [-5, 1, 0]), ([255] * 100000, [-5, 1, 0]),
            (list(b"GLAW") + [255] * 99996, [-5, 2, 8]), (list(b"GLAW") + [0] * 99996, [-5, 2, 12]),
        ]:
            self.assertEqual(judge(octets), answer)

    def test_100000_numbers_that_are_all_told(self):
        kind = [(1, 0)]
        paintings = [painting(1, (0, 0, 0, 0))] * 252
        octets = workshop(crowded_cartoon(), [(1, 1, 1, 1)] * 449, [], [glass()] * 256, paintings)
        self.assertEqual(len(octets), 100000)
        place = reference.broken(crowded_cartoon())[1]
        self.assertEqual(judge(octets), [-5, 4, 80 + place])
        self.assertEqual(judge(octets[:-1]), [-5, 3, 4])
        self.assertEqual(judge(workshop(grid(), [(1, 1, 1, 1)] * 1024, kind * 16, [glass()] * 256, paintings)), [0])


def mark_place(octets, mark):
    """The place of a mark in a cartoon's bytes."""
    first = 20 + 8 * 200 + 4 * 541
    places = range(first, len(octets), 12)
    return next(place for place in places if octets[place:place + 8] == little(mark[0], 4) + little(mark[1], 4))


if __name__ == "__main__":
    unittest.main()
