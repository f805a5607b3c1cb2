"""Long texts, and pages of as many lines as there may be."""

import unittest

from glasspages.pages import printed, read
from tests.large import grid_parts
from tests.parts import octets_of, page_of, run_parts, text_of
from tests.test_read import BEHIND_SHELF, BEHIND_WINDOW, LEAST_PAGE

MOST = 40000
LINES_START = LEAST_PAGE[:BEHIND_WINDOW]
SHEETS_START = LEAST_PAGE[:BEHIND_SHELF]
BANDS = b" 0" * 32


class Long(unittest.TestCase):
    def assert_told(self, text, answer):
        self.assertLessEqual(len(text), MOST)
        self.assertEqual(read(list(text)), answer)

    def test_one_line(self):
        for start, sign, count in [
            (b"", b"w", 1), (b"", b"0", 0), (b"", b" ", 0), (b"", b"\n", 0), (b"", b"\xff", 0), (b"workshop", b" ", 8),
            (b"workshop\nwindow ", b"9", 25), (b"workshop\nwindow ", b"1", 26), (b"workshop\nwindow ", b"0", 17),
            (b"workshop\nwindow ", b" ", 16), (b"workshop\nwindow ", b"0 ", 19), (b"workshop\nwindow ", b"1 ", 19),
            (SHEETS_START + b"glass", b" 1", len(SHEETS_START) + 5 + 64),
            (SHEETS_START + b"paint" + BANDS + b"\ncoats", b" 1", len(SHEETS_START) + 5 + 64 + 6 + 8),
        ]:
            text = start + sign * ((MOST - len(start)) // len(sign))
            self.assert_told(text, [-5, 1, count])

    def test_long_line_at_the_end(self):
        page = bytes(page_of(run_parts()))
        for sign in (b"e", b"0", b"\n", b" "):
            self.assert_told(page + sign * (MOST - len(page)), [-5, 1, len(page)])

    def test_very_many_lines(self):
        self.assert_told(LINES_START + b"line 0 0\n" * 4430 + LEAST_PAGE[BEHIND_WINDOW:], [-5, 18, 12])
        end = b"cut 1 1 1 1 1\nlead 1 1 1 1 1\nmargin 1\nways 1\nshelf 1\n"
        for line, answer in [
            (b"sheet 0 0 0 0\n", [-5, 18, 56]), (b"kind 0 0\n", [-5, 18, 60]), (b"glass" + BANDS + b"\n", [-5, 18, 64]),
            (b"paint" + BANDS + b"\ncoats 0\n", [-5, 18, 68]),
        ]:
            text = LINES_START + end + line * ((MOST - 200) // len(line)) + b"end\n"
            self.assert_told(text, answer)

    def test_very_many_lines_behind_four_points(self):
        end = b"cut 1 1 1 1 1\nlead 1 1 1 1 1\nmargin 1\nways 1\nshelf 1\nend\n"
        start = b"workshop\nwindow 16 16\npoint 0 0\npoint 16 0\npoint 0 16\npoint 16 16\n"
        frame = b"line 0 1\nline 0 2\nline 1 3\nline 2 3\n"
        for text, answer in [
            (start + b"line 0 1\n" * 4400 + end, [-5, 20, 96]),
            (start + b"line 0 1\n" * 4300 + b"pane 8 8 0 0\n" + end, [-5, 20, 80 + 52 + 4]),
            (start + frame + b"pane 8 8 0 0\n" * 2040 + end, [-5, 20, 80 + 68 + 12]),
            (start + frame + b"pane 8 8 0 0\n" * 2900 + end, [-5, 20, 96]),
        ]:
            self.assert_told(text, answer)

    def test_no_line_ended_rightly_behind_very_many(self):
        text = LINES_START + b"line 0 0\n" * 4000
        self.assert_told(text, [-5, 1, len(text)])
        self.assert_told(text + b"line 0 65536\n", [-5, 1, len(text) + 11])
        self.assert_told(text + b"point 0 0\n", [-5, 1, len(text) + 1])

    def test_200_points_and_as_many_lines_as_fit(self):
        points = [(0, 0), (1000, 0)] + [(500 + n * n % 499, 2 * n + 1) for n in range(196)] + [(0, 1000), (1000, 1000)]
        lines = [(a, b) for a in range(200) for b in range(a + 1, 200)][:2800]
        parts = run_parts(width=1000, height=1000, points=points, lines=lines + [(198, 199)])
        page = page_of(parts)
        self.assertLessEqual(len(page), MOST)
        self.assertEqual(read(page)[:2], [-5, 20])

    def test_net_of_200_points(self):
        parts = grid_parts(sheets=[(1, 9, 9, 0)] * 1024)
        page, octets = page_of(parts), octets_of(parts)
        self.assertLessEqual(len(page), MOST)
        self.assertEqual(read(page), [0, len(octets)] + octets)
        self.assertEqual(printed(octets), [0, len(page)] + page)


class Counts(unittest.TestCase):
    """Of points, lines and marks there are 65,535 at most, of the others as many as one likes."""

    def test_points(self):
        text = LINES_START + b"point 0 0\n" * 65535
        self.assertEqual(read(list(text + LEAST_PAGE[BEHIND_WINDOW:])), [-5, 18, 12])
        # With no point more there may still be a pane, so the word's first letter goes on.
        self.assertEqual(read(list(text + b"point 0 0\n" + LEAST_PAGE[BEHIND_WINDOW:])), [-5, 1, len(text) + 1])

    def test_lines(self):
        text = LINES_START + b"line 0 0\n" * 65535
        self.assertEqual(read(list(text + LEAST_PAGE[BEHIND_WINDOW:])), [-5, 18, 12])
        self.assertEqual(read(list(text + b"line 0 0\n" + LEAST_PAGE[BEHIND_WINDOW:])), [-5, 1, len(text)])

    def test_marks(self):
        text = LINES_START + b"pane 0 0 0 0\n" * 65535
        self.assertEqual(read(list(text + LEAST_PAGE[BEHIND_WINDOW:])), [-5, 18, 12])
        self.assertEqual(read(list(text + b"pane 0 0 0 0\n" + LEAST_PAGE[BEHIND_WINDOW:])), [-5, 1, len(text)])

    def test_kinds(self):
        text = SHEETS_START + b"kind 0 0\n" * 65537 + b"end\n"
        self.assertEqual(read(list(text)), [-5, 18, 12])

    def test_points_counted_in_two_bytes(self):
        parts = run_parts(points=[(0, 0)] * 65535)
        self.assertEqual(read(page_of(parts)), [-5, 20, 92])
        rows = [("point", 0, 0)] * 257
        text = bytes(page_of(run_parts(points=[]))).replace(b"line 0 1\n", text_of(rows) + b"line 0 1\n", 1)
        self.assertEqual(read(list(text)), [-5, 20, 80 + 28])


if __name__ == "__main__":
    unittest.main()
