"""The rules 1 to 13 of cartoons, told through rule 4 of workshops: 80 and the place in the cartoon."""

import unittest

from tests.asked import cartoon_fault, judge
from tests.builder import RUN_LINES, RUN_MARKS, RUN_POINTS, cartoon, drawn, frame, path, put, workshop

FIRST_LINE = 60
FIRST_MARK = 88


class CartoonCase(unittest.TestCase):
    def assert_right(self, octets):
        self.assertEqual(judge(workshop(octets)), [0])
        self.assertIsNone(cartoon_fault(octets))

    def assert_broken(self, octets, rule, place):
        self.assertEqual(cartoon_fault(octets), (rule, place))
        self.assertEqual(judge(workshop(octets)), [-5, 4, 80 + place])
        # Whatever stands behind the cartoon makes no difference.
        self.assertEqual(judge(workshop(octets, sheets=[(1, 0, 0, 9)])), [-5, 4, 80 + place])


class Head(CartoonCase):
    def test_right(self):
        self.assert_right(cartoon())

    def test_rule_1_too_few(self):
        for count in (0, 1, 4, 19):
            self.assert_broken(cartoon()[:count], 1, count)
            self.assert_broken([7] * count, 1, count)

    def test_rule_1_first_bytes(self):
        for place in range(4):
            self.assert_broken(put(cartoon(), place, 1, 0), 1, 0)
        self.assert_broken([7] * 20, 1, 0)
        self.assert_broken(list(b"GLAW") + cartoon()[4:], 1, 0)

    def test_rule_2_bounds_broken(self):
        for place, size, values in [
            (4, 4, (0, 15, 1048576, 2 ** 24 + 30, 2 ** 31 + 30, 2 ** 32 - 1)),
            (8, 4, (0, 15, 1048576, 2 ** 24 + 20, 2 ** 31 + 20, 2 ** 32 - 1)),
            (12, 2, (0, 3, 4097, 65535)), (14, 2, (0, 3, 8193, 65535)), (16, 2, (0, 2049, 65535)),
        ]:
            for value in values:
                self.assert_broken(put(cartoon(), place, size, value), 2, place)

    def test_rule_2_bytes_18_and_19(self):
        for place in (18, 19):
            for value in (1, 128, 255):
                self.assert_broken(put(cartoon(), place, 1, value), 2, 18)
        self.assert_broken(put(cartoon(), 18, 2, 65535), 2, 18)

    def test_rule_2_least_place(self):
        places = [(4, 4), (8, 4), (12, 2), (14, 2), (16, 2), (18, 2)]
        for (one, size), (other, other_size) in zip(places, places[1:]):
            octets = put(put(cartoon(), one, size, 65535 if size == 2 else 0), other, other_size, 65535)
            self.assert_broken(put(octets, other, other_size, 256 ** other_size - 1), 2, one)

    def test_rule_2_bounds_kept(self):
        for side in (16, 1048575):
            self.assert_right(drawn(side, side, frame(side, side), [(1, 1)]))
        # Counts within their bounds break rule 3 here, not 2.
        for place, values in [(12, (4, 4096)), (14, (4, 8192)), (16, (1, 2048))]:
            for value in values:
                self.assert_broken(put(cartoon(), place, 2, value), 3, 20)

    def test_rule_3(self):
        self.assert_broken(cartoon()[:-1], 3, 20)
        self.assert_broken(cartoon() + [0], 3, 20)
        self.assert_broken(cartoon()[:20], 3, 20)
        for place in (12, 14, 16):
            value = cartoon()[place]
            self.assert_broken(put(cartoon(), place, 2, value + 1), 3, 20)
        for place in (14, 16):
            self.assert_broken(put(cartoon(), place, 2, cartoon()[place] - 1), 3, 20)


class Points(CartoonCase):
    def broken_at(self, number, point):
        points = list(RUN_POINTS)
        points[number] = point
        self.assert_broken(cartoon(points=points), 4, 20 + 8 * number)

    def test_outside(self):
        self.broken_at(1, (31, 0))
        self.broken_at(2, (31, 10))
        self.broken_at(2, (2 ** 31, 10))
        self.broken_at(4, (30, 21))
        self.broken_at(4, (30, 2 ** 32 - 1))
        self.broken_at(0, (31, 0))
        self.broken_at(0, (0, 21))

    def test_out_of_order(self):
        self.broken_at(2, (10, 0))
        self.broken_at(2, (29, 0))
        self.broken_at(3, (11, 9))
        self.broken_at(3, (9, 10))
        self.broken_at(4, (0, 19))

    def test_twice(self):
        for number in range(1, 5):
            self.broken_at(number, RUN_POINTS[number - 1])

    def test_least_place(self):
        points = [(0, 0), (30, 0), (10, 0), (0, 20), (31, 20)]
        self.assert_broken(cartoon(points=points), 4, 36)
        points = [(0, 0), (31, 0), (10, 0), (0, 20), (30, 20)]
        self.assert_broken(cartoon(points=points), 4, 28)


class Lines(CartoonCase):
    def broken_at(self, number, line):
        lines = list(RUN_LINES)
        lines[number] = line
        self.assert_broken(cartoon(lines=lines), 5, FIRST_LINE + 4 * number)

    def test_ends(self):
        self.broken_at(1, (2, 0))
        self.broken_at(1, (1, 1))
        self.broken_at(6, (4, 4))
        self.broken_at(6, (3, 5))
        self.broken_at(6, (3, 65535))
        self.broken_at(6, (65534, 65535))
        self.broken_at(0, (0, 0))
        self.broken_at(0, (0, 5))

    def test_out_of_order(self):
        self.broken_at(2, (0, 1))
        self.broken_at(3, (0, 2))
        self.broken_at(6, (1, 3))

    def test_twice(self):
        for number in range(1, 7):
            self.broken_at(number, RUN_LINES[number - 1])

    def test_least_place(self):
        lines = [(0, 1), (0, 3), (0, 2), (1, 2), (1, 4), (2, 3), (3, 5)]
        self.assert_broken(cartoon(lines=lines), 5, FIRST_LINE + 8)


class Frame(CartoonCase):
    def test_each_corner(self):
        corners = [(0, 0), (30, 0), (0, 20), (30, 20)]
        for missing in corners:
            # The corner is cut off by a line, and each edge is covered as far as there are points on it.
            beside = [(10 if missing[0] == 0 else 20, missing[1]), (missing[0], 10)]
            pairs = [pair for pair in frame(30, 20, *beside) if missing not in pair] + path(*beside)
            self.assert_broken(drawn(30, 20, pairs, [(15, 5)]), 6, 20)

    def test_each_edge(self):
        for edge in [(0, 1), (0, 3), (1, 4), (3, 4)]:
            lines = [line for line in RUN_LINES if line != edge]
            self.assert_broken(cartoon(lines=lines), 6, 20)

    def test_point_on_each_edge_that_no_line_joins(self):
        for point in [(15, 0), (15, 20), (0, 10), (30, 10)]:
            self.assert_broken(drawn(30, 20, frame(30, 20), [(5, 5)], points=[point]), 6, 20)

    def test_point_on_each_edge_joined_on_one_side(self):
        for point in [(15, 0), (15, 20), (0, 10), (30, 10)]:
            whole = frame(30, 20, point)
            parts = [pair for pair in whole if point in pair]
            for gone in parts:
                pairs = [pair for pair in whole if pair != gone] + [(point, (12, 8)), ((12, 8), (0, 0))]
                self.assert_broken(drawn(30, 20, pairs, [(5, 1)]), 6, 20)

    def test_points_on_each_edge_joined(self):
        points = [(10, 0), (15, 0), (10, 20), (0, 9), (0, 11), (30, 10)]
        self.assert_right(drawn(30, 20, frame(30, 20, *points), [(5, 5)]))

    def test_comes_before_rule_7(self):
        # The line along the edge has a point on it, but the points next to one another aren't joined.
        pairs = frame(30, 20) + path((0, 0), (15, 0), (20, 5), (0, 0))
        self.assert_broken(drawn(30, 20, pairs, [(5, 5)]), 6, 20)


class Entangled(CartoonCase):
    def test_point_on_a_line(self):
        points = [(0, 0), (30, 0), (10, 10), (15, 10), (20, 10), (0, 20), (30, 20)]
        lines = [(0, 1), (0, 5), (1, 6), (2, 4), (5, 6)]
        self.assert_broken(cartoon(points=points, lines=lines), 7, 20 + 56 + 12)

    def test_point_on_a_slanting_line(self):
        pairs = frame(30, 30) + [((0, 0), (30, 30)), ((10, 10), (10, 11))]
        # Lines by number: 0 1, 0 4, 0 5 (the slant), ...
        self.assert_broken(drawn(30, 30, pairs, [(5, 1)]), 7, 20 + 48 + 8)

    def test_point_on_an_upright_line(self):
        pairs = frame(30, 20, (10, 0), (10, 20)) + [((10, 0), (10, 20))]
        octets = drawn(30, 20, pairs, [(5, 1)], points=[(10, 7)])
        # Points (0,0) (10,0) (30,0) (10,7) (0,20) (10,20) (30,20); lines 0 1, 0 4, 1 2, 1 5, ...
        self.assert_broken(octets, 7, 20 + 56 + 12)

    def test_line_along_an_edge_over_a_point(self):
        pairs = frame(30, 20, (10, 0)) + [((0, 0), (30, 0))]
        self.assert_broken(drawn(30, 20, pairs, [(5, 5)]), 7, 20 + 40 + 4)

    def test_near_a_line_is_not_on_it(self):
        side = 1048575
        pairs = frame(side, side) + path((0, 0), (side - 1, side - 2), (side, side), (0, 0))
        # The point next to the diagonal is off it, by the least there can be.
        self.assert_broken(drawn(side, side, pairs, [(5, 1)]), 13, 20 + 40 + 28 + 12)

    def test_crossing(self):
        pairs = frame(30, 20) + [((0, 0), (30, 20)), ((30, 0), (0, 20))]
        # Lines 0 1, 0 2, 0 3, 1 2 (crosses 0 3), 1 3, 2 3.
        self.assert_broken(drawn(30, 20, pairs, [(5, 1)]), 7, 20 + 32 + 12)

    def test_crossing_where_no_whole_numbers_are(self):
        pairs = frame(30, 20) + [((1, 1), (3, 4)), ((2, 1), (2, 4))]
        # Points (0,0) (30,0) (1,1) (2,1) (2,4) (3,4) (0,20) (30,20); lines 0 1, 0 6, 1 7, 2 5, 3 4, 6 7.
        self.assert_broken(drawn(30, 20, pairs, [(5, 1)]), 7, 20 + 64 + 16)

    def test_crossing_within_the_least_square(self):
        pairs = frame(30, 20) + [((10, 10), (11, 11)), ((11, 10), (10, 11))]
        # Points (0,0) (30,0) (10,10) (11,10) (10,11) (11,11) (0,20) (30,20); lines 0 1, 0 6, 1 7, 2 5, 3 4, 6 7.
        self.assert_broken(drawn(30, 20, pairs, [(5, 1)]), 7, 20 + 64 + 16)

    def test_touching_at_ends_is_right(self):
        pairs = frame(30, 20) + [((0, 0), (15, 10)), ((30, 0), (15, 10)), ((15, 10), (0, 20)), ((15, 10), (30, 20))]
        self.assert_right(drawn(30, 20, pairs, [(15, 1), (1, 10), (29, 10), (15, 19)]))

    def test_end_of_one_on_the_other(self):
        pairs = frame(30, 20) + [((0, 0), (20, 20 - 8)), ((10, 6), (30, 0)), ((20, 12), (30, 20))]
        # Points (0,0) (30,0) (10,6) (20,12) (0,20) (30,20): the line 0 3 has the point 2 on it.
        self.assert_broken(drawn(30, 20, pairs, [(5, 1)]), 7, 20 + 48 + 4)

    def test_overlapping(self):
        base = frame(30, 20)
        # In a row: (5,5) (10,5) (15,5) (20,5) are points 2 to 5, so the lines are 0 1, 0 6, 1 7, then these.
        row = [(5, 5), (10, 5), (15, 5), (20, 5)]
        for one, other, place in [
            ((0, 2), (1, 3), 12), ((0, 1), (0, 2), 16), ((0, 3), (1, 2), 12), ((1, 3), (2, 3), 12),
        ]:
            pairs = base + [(row[one[0]], row[one[1]]), (row[other[0]], row[other[1]])]
            self.assert_broken(drawn(30, 20, pairs, [(5, 1)], points=row), 7, 20 + 64 + place)

    def test_in_one_row_but_apart(self):
        pairs = frame(30, 20) + [((5, 5), (10, 5)), ((15, 5), (20, 5))]
        self.assert_broken(drawn(30, 20, pairs, [(5, 1)]), 8, 20 + 16)

    def test_in_line_but_past_the_end(self):
        # The second line's own row would cut the first, but it ends before it gets there.
        pairs = frame(30, 20) + [((0, 0), (20, 18)), ((15, 2), (14, 7))]
        self.assert_broken(drawn(30, 20, pairs, [(5, 1)]), 8, 20 + 16)

    def test_least_place(self):
        pairs = frame(30, 20) + [((0, 0), (30, 20)), ((30, 0), (0, 20)), ((1, 1), (1, 5)), ((1, 3), (5, 3))]
        octets = drawn(30, 20, pairs, [(5, 1)])
        # Points (0,0) (30,0) (1,1) (1,3) (5,3) (1,5) (0,20) (30,20); lines 0 1, 0 6, 0 7, 1 6 (crosses), ...
        self.assert_broken(octets, 7, 20 + 64 + 12)


class Ways(CartoonCase):
    def test_rule_8_no_line(self):
        octets = drawn(30, 20, frame(30, 20), [(5, 5)], points=[(10, 10)])
        self.assert_broken(octets, 8, 36)

    def test_rule_8_one_line(self):
        octets = drawn(30, 20, frame(30, 20) + [((0, 0), (10, 10))], [(5, 1)])
        self.assert_broken(octets, 8, 36)

    def test_rule_8_least_place(self):
        octets = drawn(30, 20, frame(30, 20) + [((5, 5), (10, 10))], [(5, 1)], points=[(8, 2)])
        self.assert_broken(octets, 8, 36)

    def test_rule_8_comes_before_rule_9(self):
        pairs = frame(30, 20) + path((5, 5), (9, 5), (7, 8), (5, 5)) + [((30, 20), (25, 15))]
        self.assert_broken(drawn(30, 20, pairs, [(5, 1)]), 8, 20 + 8 * 5)

    def test_rule_9_a_part_hangs_free(self):
        pairs = frame(30, 20) + path((5, 5), (9, 5), (7, 8), (5, 5))
        self.assert_broken(drawn(30, 20, pairs, [(7, 6), (1, 1)]), 9, 36)
        pairs += path((15, 2), (20, 2), (17, 4), (15, 2))
        self.assert_broken(drawn(30, 20, pairs, [(7, 6), (1, 1), (17, 3)]), 9, 36)

    def test_rule_9_comes_before_rule_10(self):
        hanging = path((0, 0), (4, 1), (1, 4), (0, 0))
        pairs = frame(30, 20) + hanging + path((10, 10), (14, 10), (12, 14), (10, 10))
        self.assert_broken(drawn(30, 20, pairs, [(1, 1)]), 9, 20 + 8 * 4)

    def test_rule_10_at_point_0(self):
        pairs = frame(30, 20) + path((0, 0), (5, 2), (2, 5), (0, 0))
        self.assert_broken(drawn(30, 20, pairs, [(2, 2), (20, 10)]), 10, 20)

    def test_rule_10_at_the_last_point(self):
        pairs = frame(30, 20) + path((30, 20), (25, 18), (28, 15), (30, 20))
        self.assert_broken(drawn(30, 20, pairs, [(28, 18), (2, 2)]), 10, 20 + 8 * 5)

    def test_rule_10_at_a_point_within(self):
        pairs = [pair for pair in frame(30, 20)] + path((0, 0), (10, 10), (30, 0))
        pairs += path((10, 10), (8, 14), (12, 14), (10, 10))
        octets = drawn(30, 20, pairs, [(10, 3), (10, 13), (2, 10)])
        self.assert_broken(octets, 10, 36)

    def test_rule_10_a_bridge(self):
        # A free triangle and a single line to it: both ends of the line part; the least is told.
        triangle = path((10, 10), (14, 10), (12, 14), (10, 10))
        pairs = frame(30, 20) + triangle + [((30, 0), (14, 10))]
        self.assert_broken(drawn(30, 20, pairs, [(12, 11), (2, 2)]), 10, 28)

    def test_rule_10_at_two_points_is_right(self):
        pairs = frame(30, 20) + path((0, 0), (10, 10), (14, 10), (30, 0)) + path((10, 10), (12, 14), (14, 10))
        self.assert_right(drawn(30, 20, pairs, [(12, 2), (12, 11), (12, 18)]))

    def test_rule_10_comes_before_rule_11(self):
        pairs = frame(30, 20) + path((0, 0), (5, 2), (2, 5), (0, 0))
        self.assert_broken(drawn(30, 20, pairs, [(0, 0)]), 10, 20)


class Marks(CartoonCase):
    def broken_at(self, number, mark):
        marks = list(RUN_MARKS)
        marks[number] = mark
        self.assert_broken(cartoon(marks=marks), 11, FIRST_MARK + 12 * number)

    def test_rule_11_on_the_frame(self):
        self.broken_at(0, (15, 0))
        self.broken_at(2, (15, 20))
        self.broken_at(1, (0, 10))
        self.broken_at(1, (30, 10))
        self.broken_at(0, (0, 0))
        self.broken_at(2, (30, 20))

    def test_rule_11_outside(self):
        self.broken_at(1, (31, 10))
        self.broken_at(2, (20, 21))
        self.broken_at(1, (2 ** 31, 10))
        self.broken_at(2, (20, 2 ** 31))
        self.broken_at(2, (2 ** 32 - 1, 2 ** 32 - 1))

    def test_rule_11_on_a_line(self):
        self.broken_at(0, (1, 1))
        self.broken_at(0, (9, 9))
        self.broken_at(1, (20, 5))
        self.broken_at(1, (9, 11))

    def test_rule_11_on_a_point(self):
        self.broken_at(1, (10, 10))

    def test_rule_11_on_each_point_of_a_ring(self):
        ring = [(15, 5), (20, 10), (15, 15), (10, 10)]
        for held in ([((0, 0), (10, 10)), ((30, 0), (20, 10))], [((0, 0), (15, 5)), ((0, 20), (15, 15))]):
            pairs = frame(30, 20) + path(*ring, ring[0]) + held
            for point in ring:
                octets = drawn(30, 20, pairs, [point])
                self.assert_broken(octets, 11, len(octets) - 12)

    def test_rule_11_on_an_upright_and_on_a_level_line(self):
        pairs = frame(30, 20, (10, 0), (10, 20), (0, 10)) + path((10, 0), (10, 10), (10, 20)) + [((0, 10), (10, 10))]
        first = 20 + 8 * 8 + 4 * 10
        self.assert_right(drawn(30, 20, pairs, [(5, 5), (15, 6), (5, 15)]))
        self.assert_broken(drawn(30, 20, pairs, [(5, 5), (10, 6), (5, 15)]), 11, first + 12)
        self.assert_broken(drawn(30, 20, pairs, [(5, 5), (15, 6), (5, 10)]), 11, first + 24)

    def test_rule_11_out_of_order(self):
        self.broken_at(1, (15, 1))
        self.broken_at(1, (14, 2))
        self.broken_at(1, (15, 2))
        self.broken_at(2, (1, 10))
        self.broken_at(2, (20, 9))

    def test_rule_11_least_place(self):
        marks = [(15, 2), (15, 1), (0, 10)]
        self.assert_broken(cartoon(marks=marks), 11, FIRST_MARK + 12)

    def test_rule_11_comes_before_rule_12(self):
        marks = [(15, 2), (16, 2), (20, 20)]
        self.assert_broken(cartoon(marks=marks), 11, FIRST_MARK + 24)

    def test_rule_12(self):
        self.assert_broken(cartoon(marks=[(15, 2), (16, 2), (2, 10), (20, 15)]), 12, FIRST_MARK + 12)
        self.assert_broken(cartoon(marks=[(15, 2), (2, 10), (20, 15), (21, 15)]), 12, FIRST_MARK + 36)
        self.assert_broken(cartoon(marks=[(15, 2), (2, 10), (2, 11), (20, 15)]), 12, FIRST_MARK + 24)
        self.assert_broken(cartoon(marks=[(15, 2), (2, 3), (29, 10), (2, 17)]), 12, FIRST_MARK + 36)

    def test_rule_12_least_place(self):
        marks = [(15, 2), (2, 10), (1, 11), (20, 15), (21, 15)]
        self.assert_broken(cartoon(marks=marks), 12, FIRST_MARK + 24)

    def test_rule_12_comes_before_rule_13(self):
        self.assert_broken(cartoon(marks=[(15, 2), (16, 2)]), 12, FIRST_MARK + 12)

    def test_rule_13(self):
        for gone in range(3):
            marks = [mark for number, mark in enumerate(RUN_MARKS) if number != gone]
            self.assert_broken(cartoon(marks=marks), 13, 112)
        self.assert_broken(cartoon(marks=RUN_MARKS[:1]), 13, 100)

    def test_rule_13_a_pane_without_whole_numbers(self):
        pairs = frame(30, 20) + path((0, 0), (1, 1), (30, 0))
        # The thin triangle (0,0) (30,0) (1,1) holds no point with whole numbers.
        octets = drawn(30, 20, pairs, [(5, 5)])
        self.assert_broken(octets, 13, len(octets))


class Order(CartoonCase):
    def test_first_broken_rule_is_told(self):
        """Rules are broken from the last to the first, all that are broken already staying so."""
        square = path((20, 10), (22, 10), (22, 12), (20, 12), (20, 10))
        pairs = frame(30, 20) + [((0, 0), (10, 10)), ((10, 10), (0, 20))]
        marks = [(2, 10), (15, 2)]
        first_mark = lambda points, lines: 20 + 8 * points + 4 * lines
        self.assert_right(drawn(30, 20, pairs, marks))
        self.assert_broken(drawn(30, 20, pairs, marks[:1]), 13, first_mark(5, 6) + 12)
        self.assert_broken(drawn(30, 20, pairs, [(2, 10), (2, 11)]), 12, first_mark(5, 6) + 12)
        marks = [(2, 10), (2, 11), (5, 20)]
        self.assert_broken(drawn(30, 20, pairs, marks), 11, first_mark(5, 6) + 24)
        pairs += path((10, 10), (12, 9), (12, 11), (10, 10))
        self.assert_broken(drawn(30, 20, pairs, marks), 10, 20 + 8 * 3)
        pairs += square
        self.assert_broken(drawn(30, 20, pairs, marks), 9, 20 + 8 * 4)
        pairs += [((30, 20), (29, 19))]
        self.assert_broken(drawn(30, 20, pairs, marks), 8, 20 + 8 * 9)
        pairs += [((20, 10), (22, 12)), ((22, 10), (20, 12))]
        # Points: (0,0) (30,0) (12,9) (10,10) (20,10) (22,10) (12,11) (20,12) (22,12) (29,19) (0,20) (30,20).
        # Lines: 0 1, 0 3, 0 10, 1 11, 2 3, 2 6, 3 6, 3 10, 4 5, 4 7, 4 8, and 5 7, which crosses 4 8.
        self.assert_broken(drawn(30, 20, pairs, marks), 7, 20 + 8 * 12 + 4 * 11)
        pairs.remove(((0, 20), (30, 20)))
        octets = drawn(30, 20, pairs, marks)
        self.assert_broken(octets, 6, 20)
        last_line = len(octets) - 12 * len(marks) - 4
        octets = put(octets, last_line, 2, 11)
        self.assert_broken(octets, 5, last_line)
        octets = put(octets, 20 + 8 * 11, 4, 31)
        self.assert_broken(octets, 4, 20 + 8 * 11)
        self.assert_broken(octets + [0], 3, 20)
        self.assert_broken(put(octets, 18, 1, 1) + [0], 2, 18)
        self.assert_broken([0] + put(octets, 18, 1, 1)[1:] + [0], 1, 0)


if __name__ == "__main__":
    unittest.main()
