"""Workshops printed: the lines of the page, the edges of their numbers, and what is refused."""

import random
import unittest

from glasspages import printing
from glasspages.cartoon import cartoon_fault
from glasspages.pages import judge, printed
from tests.broken import broken_cartoons, broken_workshops
from tests.builder import put, run, workshop
from tests.large import crowded_cartoon, grid_parts
from tests.parts import KINDS, full_parts, octets_of, page_of, run_parts

RUN_PAGE = b"""workshop
window 30 20
point 0 0
point 30 0
point 10 10
point 0 20
point 30 20
line 0 1
line 0 2
line 0 3
line 1 2
line 1 4
line 2 3
line 3 4
pane 15 2 5 0
pane 2 10 6 0
pane 20 15 7 0
cut 1 1 1 3 5
lead 1 1 60 2 1
margin 1
ways 7
shelf 1000
sheet 7 40 30 0
sheet 5 12 50 1
sheet 6 12 22 0
end
"""
FULL_LINES = b"""pane 15 2 65535 1
pane 2 10 0 65534
pane 20 15 256 255
cut 999 1000 10 9 65535
lead 0 1 16777215 100 65534
margin 65533
ways 255
shelf 18446744073709551615
sheet 65535 16777215 1 1
sheet 0 9 10 0
sheet 1 2 3 1
kind 1400 9999
kind 900 10
kind 9 0
kind 1 9
glass 5 6 7 8 9 10 11 12 13 14 15 16 17 18 19 20 21 22 23 24 25 26 27 28 29 30 31 32 33 34 35 36
glass 0 0 0 0 0 0 0 0 0 0 0 0 0 0 0 0 0 0 0 0 0 0 0 0 0 0 0 0 0 0 0 65535
"""


def page_told(octets):
    """The page printed, as text; its count is looked at too."""
    answer = printed(octets)
    assert answer[:2] == [0, len(answer) - 2], answer[:3]
    return bytes(answer[2:])


class Run(unittest.TestCase):
    def test_run(self):
        self.assertEqual(printed(run()), [0, len(RUN_PAGE)] + list(RUN_PAGE))
        self.assertEqual(len(run()), 252)


class Lines(unittest.TestCase):
    def assert_printed(self, parts):
        page = page_of(parts)
        self.assertEqual(printed(octets_of(parts)), [0, len(page)] + page)

    def lines_of(self, word, **changed):
        """The lines of that word of a full workshop, some of its parts changed."""
        page = page_told(octets_of(full_parts(**changed)))
        return [line for line in page.split(b"\n") if line.split(b" ")[0] == word]

    def test_some_of_everything(self):
        page = page_told(octets_of(full_parts()))
        self.assertIn(FULL_LINES, page)
        self.assertTrue(page.startswith(b"workshop\nwindow 30 20\npoint 0 0\npoint 30 0\n"))
        self.assertTrue(page.endswith(b"\ncoats 0 1 2 3\nend\n"))
        self.assert_printed(full_parts())

    def test_coats_behind_each_paint(self):
        page = page_told(octets_of(full_parts())).split(b"\n")
        paints = [number for number, line in enumerate(page) if line.startswith(b"paint ")]
        self.assertEqual([page[number + 1] for number in paints],
                         [b"coats 3", b"coats 0 2", b"coats 0 1 3", b"coats 0 1 2 3"])
        self.assertEqual([len(page[number].split(b" ")) for number in paints], [33] * 4)
        self.assertEqual(len([line for line in page if line.startswith(b"coats")]), 4)

    def test_only_as_many_kinds_as_coats(self):
        for kinds in ([0], [3], [0, 1], [2, 3], [0, 1, 2], [1, 2, 3], [0, 1, 2, 3]):
            line = " ".join(map(str, ["coats"] + kinds)).encode()
            self.assertEqual(self.lines_of(b"coats", paintings=[([7] * 32, kinds)]), [line])

    def test_kind_told_as_0_and_as_two_digits(self):
        kinds = [(1400 - number, number) for number in range(16)]
        paintings = [([0] * 32, [0, 9, 10, 15]), ([1] * 32, [0])]
        self.assertEqual(self.lines_of(b"coats", kinds=kinds, paintings=paintings), [b"coats 0 9 10 15", b"coats 0"])

    def test_nothing_but_a_cartoon(self):
        self.assert_printed(run_parts(sheets=[]))
        page = page_told(octets_of(run_parts(sheets=[])))
        self.assertEqual(page, RUN_PAGE[:RUN_PAGE.index(b"sheet")] + b"end\n")

    def test_each_part_missing_and_alone(self):
        for part in ("sheets", "kinds", "glasses", "paintings"):
            changed = {part: []}
            if part == "kinds":
                changed["paintings"] = []
            self.assert_printed(full_parts(**changed))
        for part in ("sheets", "kinds", "glasses"):
            alone = {"sheets": [], part: full_parts()[part]}
            self.assert_printed(run_parts(**alone))

    def test_each_number_by_itself(self):
        """Every number of the head has its own place in its own line."""
        for index in range(12):
            for value in (1, 2, 100, 255):
                numbers = [1] * 12
                numbers[index] = value
                self.assert_printed(run_parts(numbers=numbers))

    def test_smallest_and_largest_window(self):
        for width, height in [(16, 1048575), (1048575, 16)]:
            points = [(0, 0), (width, 0), (0, height), (width, height)]
            lines = [(0, 1), (0, 2), (1, 3), (2, 3)]
            parts = run_parts(width=width, height=height, points=points, lines=lines, marks=[(9, 10, 65535, 0)])
            self.assert_printed(parts)
            self.assertIn(b"window %d %d\n" % (width, height), page_told(octets_of(parts)))

    def test_largest_parts(self):
        kinds = [(1400 - number, 9999 - number) for number in range(16)]
        parts = grid_parts(
            shelf=2 ** 64 - 1, sheets=[(65535, 16777215, 16777215, 1)] * 1024, kinds=kinds,
            glasses=[[65535] * 32] * 256, paintings=[([65535] * 32, [12, 13, 14, 15])] * 256,
        )
        self.assertEqual(len(parts["points"]), 200)
        self.assert_printed(parts)


class Numbers(unittest.TestCase):
    def test_shelf(self):
        for shelf in (0, 1, 9, 10, 99, 100, 255, 256, 65535, 65536, 2 ** 32 - 1, 2 ** 32, 2 ** 63, 2 ** 64 - 1):
            self.assertIn(b"\nshelf %d\n" % shelf, page_told(workshop(shelf=shelf)))
        self.assertIn(b"\nshelf 18446744073709551615\nend\n", page_told(workshop(shelf=2 ** 64 - 1)))

    def test_two_bytes(self):
        for number in (0, 1, 9, 10, 255, 256, 65534, 65535):
            told = page_told(octets_of(full_parts(glasses=[[number] * 32], marks=[
                (15, 2, number, 3), (2, 10, 4, number), (20, 15, number, number),
            ])))
            self.assertIn(b"\nglass" + b" %d" % number * 32 + b"\n", told)
            self.assertIn(b"\npane 15 2 %d 3\npane 2 10 4 %d\npane 20 15 %d %d\n" % ((number,) * 4), told)

    def test_bands(self):
        for index in range(32):
            row = [0] * 32
            row[index] = 65535
            line = " ".join(map(str, row)).encode()
            told = page_told(octets_of(full_parts(glasses=[row], paintings=[(row, [1, 2])])))
            self.assertIn(b"\nglass " + line + b"\npaint " + line + b"\ncoats 1 2\nend\n", told)

    def test_four_bytes(self):
        for number in (0, 1, 9, 10, 65535):
            self.assertIn(b"\nmargin %d\n" % number, page_told(put(run(), 48, 4, number)))
        for number in (1, 9, 10, 256, 65536, 16777215):
            self.assertIn(b" %d 2 1\nmargin" % number, page_told(put(run(), 36, 4, number)))

    def test_largest_of_four_bytes(self):
        # No workshop holds it, so it's refused; the line is right all the same.
        octets = put(run(), 48, 4, 4294967295)
        self.assertEqual(printed(octets), [-5, 2, 48])
        self.assertIn(b"\nmargin 4294967295\n", bytes(printing.page_of(octets)))

    def test_random_workshops(self):
        source = random.Random(5)
        for count in range(60):
            parts = random_parts(source)
            page = page_of(parts)
            self.assertEqual(printed(octets_of(parts)), [0, len(page)] + page)


def random_parts(source):
    """Parts of a workshop of the run's drawing."""
    def up_to(most, least=0):
        return source.choice([least, most, source.randint(least, most), source.randint(least, min(most, 20))])

    def row():
        return [up_to(65535) for band in range(32)]

    bounds = [(0, 1000), (1, 1000), (0, 1000), (1, 1000), (0, 65535)]
    bounds += [(0, 1000), (1, 1000), (1, 16777215), (0, 65535), (0, 65535), (0, 65535), (1, 255)]
    counts = [source.randint(0, 3) for part in range(4)]
    chosen = [sorted(source.sample(range(4), source.randint(1, 4))) for painting in range(counts[3])]
    return full_parts(
        marks=[(x, y, up_to(65535), up_to(65535)) for x, y in [(15, 2), (2, 10), (20, 15)]],
        numbers=[up_to(most, least) for least, most in bounds],
        shelf=up_to(2 ** 64 - 1),
        sheets=[(up_to(65535), up_to(16777215, 1), up_to(16777215, 1), up_to(1)) for sheet in range(counts[0])],
        kinds=KINDS + [(up_to(1400, 1), up_to(9999)) for kind in range(counts[1])],
        glasses=[row() for glass in range(counts[2])],
        paintings=[(row(), kinds) for kinds in chosen],
    )


class Refused(unittest.TestCase):
    def test_each_rule_of_workshops(self):
        seen = set()
        for rule, octets, place in broken_workshops():
            self.assertEqual(printed(octets), [-5, rule, place])
            self.assertEqual(printed(octets), judge(octets))
            seen.add(rule)
        self.assertEqual(seen, set(range(1, 8)))

    def test_each_rule_of_cartoons(self):
        seen = set()
        for rule, octets, place in broken_cartoons():
            self.assertEqual(cartoon_fault(octets), (rule, place))
            self.assertEqual(printed(workshop(octets)), [-5, 4, 80 + place])
            seen.add(rule)
        self.assertEqual(seen, set(range(1, 14)))

    def test_a_page_is_no_workshop(self):
        self.assertEqual(printed(list(RUN_PAGE)), [-5, 1, 0])

    def test_100000_numbers(self):
        for octets in ([0] * 100000, list(b"GLAW") + [255] * 99996, workshop(crowded_cartoon())):
            self.assertEqual(printed(octets), judge(octets))
            self.assertEqual(len(printed(octets)), 3)

    def test_too_long_comes_before_the_rules(self):
        self.assertEqual(printed([0] * 1048577), [-6])
        self.assertEqual(printed([0] * 1048576), [-5, 1, 0])


class Calls(unittest.TestCase):
    def inputs(self):
        return [run(), octets_of(full_parts()), [], run()[:-1]] + [octets for rule, octets, place in broken_workshops()]

    def test_what_is_handed_in_stays(self):
        for octets in self.inputs():
            before = list(octets)
            printed(octets)
            self.assertEqual(octets, before)

    def test_second_call_answers_as_first(self):
        first = [printed(octets) for octets in self.inputs()]
        self.assertEqual([printed(octets) for octets in self.inputs()], first)
        self.assertEqual([printed(octets) for octets in reversed(self.inputs())], first[::-1])

    def test_answer_changed_by_the_caller_is_not_kept(self):
        for octets in self.inputs():
            answer = printed(octets)
            before = list(answer)
            answer.append(7)
            answer[0] = 9
            self.assertEqual(printed(octets), before)

    def test_whole_numbers_in_a_list(self):
        for octets in self.inputs():
            answer = printed(octets)
            self.assertIs(type(answer), list)
            self.assertEqual({type(number) for number in answer}, {int})


if __name__ == "__main__":
    unittest.main()
