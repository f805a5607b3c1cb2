"""Texts read: pages as bytes, texts that are no page, and pages whose bytes are no workshop."""

import unittest

from glasspages.pages import judge, printed, read
from tests.builder import RUN_LINES, RUN_MARKS, RUN_SHEETS, run, workshop
from tests.parts import full_parts, octets_of, page_of, rows_of, run_parts, small_parts, text_of
from tests.test_printed import RUN_PAGE

LEAST_PAGE = b"""workshop
window 0 0
cut 0 0 0 0 0
lead 0 0 0 0 0
margin 0
ways 0
shelf 0
end
"""
BEHIND_WINDOW = LEAST_PAGE.index(b"cut")
BEHIND_SHELF = LEAST_PAGE.index(b"end")
# Numbers of two, four and eight bytes, and a coat's kind of one.
LARGEST = {1: 255, 2: 65535, 4: 4294967295, 8: 18446744073709551615}


def told(text):
    return read(list(text))


class ReadCase(unittest.TestCase):
    def assert_ends(self, text, place):
        """The text is no page, and just so many of its bytes go on as one."""
        self.assertEqual(told(text), [-5, 1, place], text)

    def assert_left(self, start, rest, count):
        """So many of the rest's bytes go on as a page behind the start."""
        self.assert_ends(start + rest, len(start) + count)

    def assert_page(self, text):
        """The text is a page, be its bytes a workshop or not."""
        answer = told(text)
        self.assertTrue(answer[0] == 0 or answer[1] > 16, (text, answer[:3]))


class Run(ReadCase):
    def test_run(self):
        self.assertEqual(told(RUN_PAGE), [0, 252] + run())

    def test_texts_told_behind_it(self):
        self.assertEqual(told(RUN_PAGE.replace(b"point 0 0\n", b"point 00 0\n")), [-5, 1, 29])
        self.assertEqual(told(RUN_PAGE.replace(b"ways 7\n", b"ways 256\n")), [-5, 18, 52])
        self.assertEqual(told(RUN_PAGE.replace(b"window 30 20\n", b"window 30 4294967296\n")), [-5, 1, 28])

    def test_parts(self):
        for parts in (run_parts(), full_parts(), small_parts(), run_parts(sheets=[]), full_parts(paintings=[])):
            octets = octets_of(parts)
            self.assertEqual(read(page_of(parts)), [0, len(octets)] + octets)

    def test_least_page(self):
        self.assertEqual(told(LEAST_PAGE), [-5, 18, 12])

    def test_coats_with_0s_behind_them(self):
        for kinds, four in [([1], [1, 0, 0, 0]), ([0, 1], [0, 1, 0, 0]), ([0, 1, 2], [0, 1, 2, 0])]:
            answer = read(page_of(full_parts(paintings=[([7] * 32, kinds)])))
            self.assertEqual(answer[-5:], [len(kinds)] + four)
            self.assertEqual(answer[-69:-5], [7, 0] * 32)


class Cut(ReadCase):
    def test_empty_text(self):
        self.assertEqual(read([]), [-5, 1, 0])

    def test_every_beginning(self):
        for parts in (run_parts(), full_parts(), small_parts()):
            page = bytes(page_of(parts))
            for count in range(len(page)):
                self.assert_ends(page[:count], count)

    def test_behind_the_end(self):
        for page in (RUN_PAGE, LEAST_PAGE, bytes(page_of(full_parts()))):
            for more in (b"\n", b" ", b"e", b"end\n", b"w", b"0", b"\0", b"\xff", page):
                self.assert_ends(page + more, len(page))

    def test_no_text_of_signs(self):
        for octets in ([0], [10], [32], [255], [0] * 50, [255] * 50, list(b"GLAW"), run(), list(b"Workshop\n")):
            self.assertEqual(read(octets), [-5, 1, 0])


class Words(ReadCase):
    def test_each_word_left_at_each_letter(self):
        for parts in (run_parts(), full_parts(), small_parts()):
            rows = rows_of(parts)
            for number, row in enumerate(rows):
                start = text_of(rows[:number])
                for count in range(len(row[0]) + 1):
                    for other in (b"#", b"\n" if len(row) > 1 or count < len(row[0]) else b" ", b"\xff", b"0", b"A"):
                        self.assert_left(start, row[0][:count].encode() + other, count)

    def test_first_word(self):
        for word, count in [(b"window", 1), (b"ways", 1), (b"workshop ", 8), (b"works\n", 5), (b"end\n", 0),
                            (b"workshops", 8), (b" workshop", 0), (b"\nworkshop", 0)]:
            self.assert_left(b"", word, count)

    def test_second_word(self):
        for word, count in [(b"ways 0", 1), (b"workshop\n", 1), (b"window\n", 6), (b"winter", 3), (b"window  1", 7),
                            (b"cut ", 0), (b"point ", 0), (b"end\n", 0)]:
            self.assert_left(b"workshop\n", word, count)

    def test_words_behind_window(self):
        start = LEAST_PAGE[:BEHIND_WINDOW]
        for word, count in [(b"paint 1", 2), (b"pant", 3), (b"poine", 4), (b"pint", 1), (b"pone", 2), (b"panel", 4),
                            (b"points", 5), (b"lead 1", 1), (b"lines", 4), (b"coats 1", 1), (b"cuts", 3), (b"cut\n", 3),
                            (b"window 1", 0), (b"margin", 0), (b"end\n", 0), (b"sheet", 0), (b"glass", 0)]:
            self.assert_left(start, word, count)

    def test_words_behind_lines_and_panes(self):
        start = LEAST_PAGE[:BEHIND_WINDOW]
        for lines, word, count in [
            (b"point 0 0\n", b"lead", 1), (b"point 0 0\n", b"paint", 2), (b"point 0 0\n", b"coats", 1),
            (b"line 0 0\n", b"point 0", 1), (b"line 0 0\n", b"pai", 2), (b"line 0 0\n", b"lead", 1),
            (b"pane 0 0 0 0\n", b"point 0", 1), (b"pane 0 0 0 0\n", b"line 0", 0), (b"pane 0 0 0 0\n", b"paint", 2),
            (b"point 0 0\nline 0 0\npane 0 0 0 0\n", b"line", 0),
        ]:
            self.assert_left(start + lines, word, count)

    def test_words_of_one_line_each(self):
        for word, others in [
            (b"lead", [(b"line 1", 1), (b"cut 0", 0), (b"leads", 4), (b"lean", 3)]),
            (b"margin", [(b"ways", 0), (b"margin\n", 6), (b"mark", 3)]),
            (b"ways", [(b"window", 1), (b"workshop", 1), (b"way ", 3), (b"wane", 2)]),
            (b"shelf", [(b"sheet", 3), (b"shell", 4), (b"shelf\n", 5), (b"end\n", 0), (b"kind", 0), (b"shop", 2)]),
        ]:
            start = LEAST_PAGE[:LEAST_PAGE.index(b"\n" + word) + 1]
            for other, count in others:
                self.assert_left(start, other, count)

    def test_words_behind_shelf(self):
        start = LEAST_PAGE[:BEHIND_SHELF]
        for word, count in [(b"shelf 1", 3), (b"pane 1", 2), (b"point", 1), (b"paint\n", 5), (b"coats 1", 0),
                            (b"kin ", 3), (b"kinds", 4), (b"glas ", 4), (b"glasses", 5), (b"ends", 3), (b"end ", 3),
                            (b"en\n", 2), (b"workshop", 0), (b"\n", 0), (b" ", 0)]:
            self.assert_left(start, word, count)

    def test_words_behind_paint(self):
        start = LEAST_PAGE[:BEHIND_SHELF] + b"paint" + b" 0" * 32 + b"\n"
        for word, count in [(b"cut 1", 1), (b"paint", 0), (b"end\n", 0), (b"coat ", 4), (b"coats\n", 5),
                            (b"coats  ", 6)]:
            self.assert_left(start, word, count)
        for word, count in [(b"coats 1", 0), (b"glass", 0), (b"pane", 2), (b"cut", 0), (b"sheet", 0), (b"kind", 0)]:
            self.assert_left(start + b"coats 1\n", word, count)


class Numbers(ReadCase):
    """Each number of each line of a page, put in the place of another."""

    def with_number(self, rows, number, index, digits):
        """The page up to that number, with these digits instead, and what stands behind it."""
        row = rows[number]
        start = text_of(rows[:number]) + " ".join(map(str, row[:index])).encode() + b" "
        rest = b"".join(b" %d" % value for value in row[index + 1:]) + b"\n" + text_of(rows[number + 1:])
        return start, digits, rest

    def each(self):
        rows = rows_of(small_parts())
        sizes = {"line": [2] * 2, "pane": [4, 4, 2, 2], "shelf": [8], "coats": [1] * 4}
        sizes.update({"glass": [2] * 32, "paint": [2] * 32})
        for number, row in enumerate(rows):
            for index in range(1, len(row)):
                size = sizes.get(row[0], [4] * 5)[index - 1]
                yield rows, number, index, LARGEST[size]

    def test_largest(self):
        for rows, number, index, largest in self.each():
            start, digits, rest = self.with_number(rows, number, index, b"%d" % largest)
            self.assert_page(start + digits + rest)

    def test_one_more_than_the_largest(self):
        for rows, number, index, largest in self.each():
            start, digits, rest = self.with_number(rows, number, index, b"%d" % (largest + 1))
            self.assert_left(start, digits + rest, len(digits) - 1)

    def test_one_digit_too_many(self):
        for rows, number, index, largest in self.each():
            for digits in (b"%d0" % largest, b"%d9" % largest, b"1" + b"0" * len(str(largest)), b"9" * 30):
                start, digits, rest = self.with_number(rows, number, index, digits)
                # Whatever has fewer digits than the largest is a number; of as many, it's only so if not larger.
                count = len(str(largest))
                while int(digits[:count]) > largest:
                    count -= 1
                self.assert_left(start, digits + rest, count)

    def test_0_before_digits(self):
        for rows, number, index, largest in self.each():
            for digits in (b"00", b"01", b"09", b"000"):
                start, digits, rest = self.with_number(rows, number, index, digits)
                self.assert_left(start, digits + rest, 1)

    def test_no_number(self):
        for rows, number, index, largest in self.each():
            for digits in (b"", b"-1", b"+1", b"a", b"/", b":", b"\xb2", b"\n", b" 1", b".5"):
                start, digits, rest = self.with_number(rows, number, index, digits)
                self.assert_left(start, digits + rest, 0)

    def test_what_stands_right_behind(self):
        for rows, number, index, largest in self.each():
            for behind in (b"a", b"/", b":", b".", b",", b"\r", b"\t", b"\0", b"\xff", b"  ", b" \n"):
                start, digits, rest = self.with_number(rows, number, index, b"7" + behind)
                last = index == len(rows[number]) - 1
                more_may_follow = not last or rows[number][0] == "coats"
                self.assert_left(start, digits + rest, 2 if behind[:1] == b" " and more_may_follow else 1)

    def test_line_ends_too_soon(self):
        for rows, number, index, largest in self.each():
            if index < len(rows[number]) - 1 and rows[number][0] != "coats":
                start, digits, rest = self.with_number(rows, number, index, b"7\n")
                self.assert_left(start, digits + rest, 1)

    def test_a_number_too_many(self):
        rows = rows_of(small_parts())
        for number, row in enumerate(rows):
            if row[0] != "coats":
                text = text_of(rows[:number + 1])[:-1]
                self.assert_left(text, b" 7\n" + text_of(rows[number + 1:]), 0)

    def test_next_word_right_behind_a_number(self):
        rows = rows_of(small_parts())
        for number in range(1, len(rows) - 1):
            start = text_of(rows[:number + 1])[:-1]
            self.assert_left(start, text_of(rows[number + 1:]), 0)
        start = LEAST_PAGE[:BEHIND_WINDOW]
        self.assert_left(start, b"point 0point 0 0\n", 7)
        self.assert_left(start, b"point 0 0point 0 0\n", 9)
        self.assert_left(start, b"point point 0 0\n", 6)

    def test_digits_that_are_numbers(self):
        for digits in (b"0", b"1", b"9", b"10", b"90", b"100", b"4294967295", b"4294967290", b"999999999"):
            for rows, number, index, largest in self.each():
                if int(digits) <= largest:
                    self.assert_page(b"".join(self.with_number(rows, number, index, digits)))

    def test_shelf(self):
        for shelf in (0, 9, 10, 2 ** 32, 2 ** 63, 2 ** 64 - 1):
            octets = workshop(sheets=RUN_SHEETS, shelf=shelf)
            self.assertEqual(told(RUN_PAGE.replace(b"shelf 1000", b"shelf %d" % shelf)), [0, 252] + octets)
        start = RUN_PAGE[:RUN_PAGE.index(b"1000")]
        for digits, count in [(b"18446744073709551616\n", 19), (b"18446744073709551620\n", 19),
                              (b"20000000000000000000\n", 19), (b"99999999999999999999\n", 19),
                              (b"100000000000000000000\n", 20)]:
            self.assert_left(start, digits, count)


class Coats(ReadCase):
    START = LEAST_PAGE[:BEHIND_SHELF] + b"paint" + b" 0" * 32 + b"\n"

    def test_one_to_four(self):
        for kinds in (b"0", b"255", b"0 255", b"9 10 99", b"255 255 255 255", b"0 0 0 0"):
            self.assert_page(self.START + b"coats " + kinds + b"\nend\n")

    def test_none(self):
        for line, count in [(b"coats\n", 5), (b"coats \n", 6), (b"coats  1\n", 6), (b"coats", 5), (b"coats ", 6)]:
            self.assert_left(self.START, line + b"end\n" if line[-1:] == b"\n" else line, count)

    def test_five(self):
        self.assert_left(self.START, b"coats 1 2 3 4 5\nend\n", 13)
        self.assert_left(self.START, b"coats 1 2 3 4 \nend\n", 13)
        self.assert_left(self.START, b"coats 1 2 3 4", 13)

    def test_256(self):
        for digits in (b"256", b"260", b"300", b"999"):
            for before in (b"", b"7 ", b"7 7 ", b"7 7 7 "):
                self.assert_left(self.START, b"coats " + before + digits + b"\nend\n", 6 + len(before) + 2)
        self.assert_left(self.START, b"coats 1000\n", 9)
        self.assert_left(self.START, b"coats 2550\n", 9)

    def test_blank_at_the_end(self):
        for kinds in (b"1", b"1 2", b"1 2 3"):
            self.assert_left(self.START, b"coats " + kinds + b" \nend\n", 6 + len(kinds) + 1)

    def test_paint_without_coats(self):
        self.assert_left(self.START, b"end\n", 0)
        self.assert_left(self.START, b"paint" + b" 0" * 32 + b"\ncoats 1\nend\n", 0)

    def test_coats_without_paint(self):
        self.assert_left(LEAST_PAGE[:BEHIND_SHELF], b"coats 1\nend\n", 0)
        self.assert_left(self.START + b"coats 1\n", b"coats 1\nend\n", 0)

    def test_paint_with_31_and_33_numbers(self):
        start = LEAST_PAGE[:BEHIND_SHELF]
        for word in (b"paint", b"glass"):
            self.assert_left(start, word + b" 1" * 31 + b"\n", 67)
            self.assert_left(start, word + b" 1" * 33 + b"\n", 69)


class Lines(ReadCase):
    """The lines of a page left out, told twice, or in another order."""

    ONCE = ("workshop", "window", "cut", "lead", "margin", "ways", "shelf", "end")

    def shared(self, word, allowed):
        """How many signs of a line of that word go on as one of those allowed."""
        heads = [other + ("\n" if other in ("workshop", "end") else " ") for other in allowed]
        head = word + ("\n" if word in ("workshop", "end") else " ")
        return max(len(common(head, other)) for other in heads)

    def test_one_missing(self):
        for parts in (run_parts(), small_parts()):
            rows = rows_of(parts)
            for number, row in enumerate(rows):
                if row[0] in self.ONCE and row[0] != "end":
                    start = text_of(rows[:number])
                    text = start + text_of(rows[number + 1:])
                    # Behind lines of a kind of which there may be more, one more may stand too.
                    allowed = {"cut": ["pane", "cut"]}.get(row[0], [row[0]])
                    self.assert_ends(text, len(start) + self.shared(rows[number + 1][0], allowed))

    def test_end_missing(self):
        for parts in (run_parts(), full_parts(), small_parts()):
            text = text_of(rows_of(parts)[:-1])
            self.assert_ends(text, len(text))

    def test_one_told_twice(self):
        behind = dict(zip(self.ONCE, [
            ["window"], ["point", "line", "pane", "cut"], ["lead"], ["margin"], ["ways"], ["shelf"],
            ["sheet", "kind", "glass", "paint", "end"], [""],
        ]))
        rows = rows_of(small_parts())
        for number, row in enumerate(rows):
            if row[0] in self.ONCE:
                start = text_of(rows[:number + 1])
                count = 0 if row[0] == "end" else self.shared(row[0], behind[row[0]])
                self.assert_left(start, text_of(rows[number:]), count)

    def test_more_of_what_may_be_more(self):
        rows = rows_of(small_parts())
        for number, row in enumerate(rows):
            if row[0] not in self.ONCE + ("paint", "coats"):
                self.assert_page(text_of(rows[:number + 1] + rows[number:]))
                self.assert_page(text_of(rows[:number] + rows[number + 1:]))

    def test_out_of_order(self):
        many = ["point", "line", "pane"]
        start = LEAST_PAGE[:BEHIND_WINDOW]
        lines = {"point": b"point 0 0\n", "line": b"line 0 0\n", "pane": b"pane 0 0 0 0\n"}
        for one in range(3):
            for other in range(one):
                before = start + lines[many[one]]
                count = self.shared(many[other], many[one:] + ["cut"])
                self.assert_left(before, lines[many[other]] + LEAST_PAGE[BEHIND_WINDOW:], count)
        many = ["sheet", "kind", "glass", "paint"]
        start = LEAST_PAGE[:BEHIND_SHELF]
        lines = {"sheet": b"sheet 0 0 0 0\n", "kind": b"kind 0 0\n", "glass": b"glass" + b" 0" * 32 + b"\n",
                 "paint": b"paint" + b" 0" * 32 + b"\ncoats 0\n"}
        for one in range(4):
            for other in range(one):
                self.assert_left(start + lines[many[one]], lines[many[other]] + b"end\n", 0)

    def test_lines_moved_behind_the_end(self):
        rows = rows_of(small_parts())
        for number in range(1, len(rows) - 1):
            moved = rows[:number] + rows[number + 1:] + [rows[number]]
            self.assertEqual(told(text_of(moved))[:2], [-5, 1])

    def test_empty_lines(self):
        rows = rows_of(small_parts())
        for number in range(len(rows) + 1):
            start = text_of(rows[:number])
            self.assert_left(start, b"\n" + text_of(rows[number:]), 0)
            self.assert_left(start, b" " + text_of(rows[number:]), 0)


def common(one, other):
    count = 0
    while count < min(len(one), len(other)) and one[count] == other[count]:
        count += 1
    return one[:count]


class NoWorkshop(ReadCase):
    """Pages whose bytes are no workshop: the rule and 16 more, the place in those bytes.

    A page's bytes begin as a workshop's do, and their counts are those of its lines. So of the rules of
    workshops 1 and 3 can't be broken, nor can 1 and 3 of cartoons, nor are there too many or too few coats.
    """

    def assert_told(self, parts, rule, place):
        self.assertEqual(read(page_of(parts)), [-5, rule, place])
        self.assertEqual(judge(octets_of(parts)), [-5, rule - 16, place])

    def test_rule_18_each_number(self):
        bounds = [(0, 1000), (1, 1000), (0, 1000), (1, 1000), (0, 65535), (0, 1000), (1, 1000), (1, 16777215),
                  (0, 65535), (0, 65535), (0, 65535), (1, 255)]
        for index, (least, most) in enumerate(bounds):
            for value in [most + 1, 4294967295] + ([0] if least else []):
                numbers = [1] * 12
                numbers[index] = value
                self.assert_told(run_parts(numbers=numbers), 18, 8 + 4 * index)

    def test_rule_18_counts(self):
        self.assert_told(run_parts(sheets=[(1, 1, 1, 1)] * 1025), 18, 56)
        self.assert_told(run_parts(kinds=[(1, 1)] * 17), 18, 60)
        self.assert_told(run_parts(glasses=[[1] * 32] * 257), 18, 64)
        self.assert_told(run_parts(kinds=[(1, 1)], paintings=[([0] * 32, [0])] * 257), 18, 68)
        self.assertEqual(read(page_of(run_parts(sheets=[(1, 1, 1, 1)] * 1024)))[0], 0)
        self.assertEqual(read(page_of(run_parts(kinds=[(1, 1)] * 16)))[0], 0)
        self.assertEqual(read(page_of(run_parts(glasses=[[1] * 32] * 256)))[0], 0)
        self.assertEqual(read(page_of(run_parts(kinds=[(1, 1)], paintings=[([0] * 32, [0])] * 256)))[0], 0)

    def test_rule_20(self):
        for changed, place in [
            ({"width": 15}, 84), ({"height": 1048576}, 88), ({"width": 4294967295}, 84), ({"points": []}, 92),
            ({"lines": []}, 94), ({"lines": RUN_LINES[:3]}, 94), ({"marks": []}, 96),
            ({"marks": [(1, 1, 0, 0)] * 2049}, 96),
            ({"points": [(0, 0), (31, 0), (10, 10), (0, 20), (30, 20)]}, 80 + 28),
            ({"points": [(0, 0), (30, 0), (10, 10), (0, 4294967295), (30, 20)]}, 80 + 44),
            ({"lines": [(0, 0)] + RUN_LINES[1:]}, 80 + 60), ({"lines": RUN_LINES[:-1] + [(3, 65535)]}, 80 + 84),
            ({"lines": RUN_LINES[1:]}, 80 + 20),
            ({"lines": sorted(RUN_LINES + [(0, 4)])}, 80 + 76),
            ({"lines": [line for line in RUN_LINES if line not in [(1, 2), (2, 3)]]}, 80 + 36),
            ({"marks": [(15, 0, 0, 0)] + RUN_MARKS[1:]}, 80 + 88), ({"marks": RUN_MARKS[::-1]}, 80 + 100),
            ({"marks": [(14, 2, 0, 0)] + RUN_MARKS}, 80 + 100), ({"marks": RUN_MARKS[:2]}, 80 + 112),
        ]:
            self.assert_told(run_parts(**changed), 20, place)

    def test_rule_20_of_ways(self):
        island = [(0, 0), (30, 0), (5, 5), (10, 5), (5, 10), (0, 20), (30, 20)]
        lines = [(0, 1), (0, 5), (1, 6), (2, 3), (2, 4), (3, 4), (5, 6)]
        self.assert_told(run_parts(points=island, lines=lines, marks=[(20, 15, 0, 0)]), 20, 80 + 36)
        hanging = [(0, 0), (30, 0), (5, 5), (10, 5), (0, 20), (30, 20)]
        lines = [(0, 1), (0, 2), (0, 3), (0, 4), (1, 5), (2, 3), (4, 5)]
        self.assert_told(run_parts(points=hanging, lines=lines, marks=[(20, 15, 0, 0)]), 20, 80 + 20)

    def test_rule_21(self):
        for sheet in [(65536, 1, 1, 0), (1, 0, 1, 0), (1, 1, 0, 0), (1, 16777216, 1, 0), (1, 1, 1, 2),
                      (4294967295,) * 4]:
            self.assert_told(run_parts(sheets=[sheet]), 21, 204)
            self.assert_told(run_parts(sheets=RUN_SHEETS + [sheet]), 21, 252)

    def test_rule_22(self):
        for kind in [(0, 1), (1401, 1), (1, 10000), (4294967295, 4294967295)]:
            self.assert_told(run_parts(kinds=[kind]), 22, 252)
            self.assert_told(run_parts(kinds=[(1, 1), kind]), 22, 260)

    def test_rule_23(self):
        first = 252 + 4 * 8 + 2 * 64 + 64
        for kinds, at in [([4], 1), ([255], 1), ([0, 4], 2), ([0, 0], 2), ([3, 0], 2), ([0, 1, 1], 3), ([0, 1, 255], 3),
                          ([0, 1, 2, 2], 4), ([0, 1, 2, 4], 4), ([255, 255, 255, 255], 1)]:
            self.assert_told(full_parts(paintings=[([0] * 32, kinds)]), 23, first + at)
            self.assert_told(full_parts(paintings=[([0] * 32, [0]), ([9] * 32, kinds)]), 23, first + 69 + at)
        self.assert_told(run_parts(paintings=[([0] * 32, [0])]), 23, 252 + 65)

    def test_first_broken_rule(self):
        """Rules are broken from the last to the first, all that are broken already staying so."""
        parts = full_parts(paintings=[([0] * 32, [9])])
        for changed, rule, place in [
            ({}, 23, 252 + 4 * 8 + 2 * 64 + 65), ({"kinds": [(0, 0)]}, 22, 252), ({"sheets": [(1, 0, 0, 9)]}, 21, 204),
            ({"marks": RUN_MARKS[1:]}, 20, 80 + 112), ({"numbers": [1] * 11 + [0]}, 18, 52),
        ]:
            parts.update(changed)
            self.assert_told(parts, rule, place)

    def test_bytes_that_are_no_workshop_have_pages_too(self):
        for numbers in ([0] * 12, [4294967295] * 12):
            parts = run_parts(numbers=numbers, points=[], lines=[], marks=[], sheets=[])
            self.assert_told(parts, 18, 12 if numbers[0] == 0 else 8)


class Calls(ReadCase):
    def inputs(self):
        pages = [page_of(run_parts()), page_of(full_parts()), page_of(small_parts(kinds=[])), [], run()]
        return pages + [page[:-1] for page in pages] + [page + [10] for page in pages]

    def test_read_and_printed_again(self):
        for parts in (run_parts(), full_parts(), small_parts(), run_parts(sheets=[])):
            octets, page = octets_of(parts), page_of(parts)
            self.assertEqual(printed(octets), [0, len(page)] + page)
            self.assertEqual(printed(read(page)[2:]), [0, len(page)] + page)
            self.assertEqual(read(printed(octets)[2:]), [0, len(octets)] + octets)

    def test_what_is_handed_in_stays(self):
        for text in self.inputs():
            before = list(text)
            read(text)
            self.assertEqual(text, before)

    def test_second_call_answers_as_first(self):
        first = [read(text) for text in self.inputs()]
        self.assertEqual([read(text) for text in self.inputs()], first)
        self.assertEqual([read(text) for text in reversed(self.inputs())], first[::-1])

    def test_answer_changed_by_the_caller_is_not_kept(self):
        for text in self.inputs():
            answer = read(text)
            before = list(answer)
            answer.append(7)
            answer[0] = 9
            self.assertEqual(read(text), before)

    def test_whole_numbers_in_a_list(self):
        for text in self.inputs():
            answer = read(text)
            self.assertIs(type(answer), list)
            self.assertEqual({type(number) for number in answer}, {int})

    def test_too_long_comes_before_the_rules(self):
        self.assertEqual(read([119] * 4194305), [-6])
        self.assertEqual(read([119] * 4194304), [-5, 1, 1])


if __name__ == "__main__":
    unittest.main()
