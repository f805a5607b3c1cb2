"""The run, the rules 1 to 7 of workshops, and what holds for every call."""

import unittest

from tests.asked import judge
from tests.builder import RUN_SHEETS, cartoon, glass, painting, put, run, workshop

KINDS = [(700, 10), (600, 0), (600, 9999), (500, 1)]

# Place, least, most of each number of bytes 8 to 71, as the document's table of workshops tells them.
NUMBERS = [
    (8, 0, 1000), (12, 1, 1000), (16, 0, 1000), (20, 1, 1000), (24, 0, 65535),
    (28, 0, 1000), (32, 1, 1000), (36, 1, 16777215), (40, 0, 65535), (44, 0, 65535),
    (48, 0, 65535), (52, 1, 255),
]
COUNTS = [(56, 1024), (60, 16), (64, 256), (68, 256)]


class Run(unittest.TestCase):
    def test_run(self):
        self.assertEqual(len(run()), 252)
        self.assertEqual(judge(run()), [0])

    def test_nothing_but_a_cartoon(self):
        self.assertEqual(judge(workshop()), [0])

    def test_all_parts(self):
        self.assertEqual(judge(full()), [0])

    def test_shelf_may_be_anything(self):
        for shelf in (0, 1, 2 ** 63, 2 ** 64 - 1):
            self.assertEqual(judge(workshop(shelf=shelf)), [0])

    def test_glasses_and_bands_may_be_anything(self):
        self.assertEqual(judge(workshop(glasses=[glass(0), glass(65535)])), [0])
        self.assertEqual(judge(workshop(kinds=KINDS, paintings=[painting(1, (0, 0, 0, 0), 65535)])), [0])

    def test_marks_glass_and_painting_need_not_be_there(self):
        marks = [(15, 2, 65535, 65535), (2, 10, 0, 9), (20, 15, 7, 300)]
        self.assertEqual(judge(workshop(cartoon(marks=marks))), [0])


class Calls(unittest.TestCase):
    def test_what_is_handed_in_stays(self):
        for octets in (run(), full(), put(run(), 84, 4, 9), put(run(), 52, 4, 256), [1, 2, 3], []):
            before = list(octets)
            judge(octets)
            self.assertEqual(octets, before)

    def test_second_call_answers_as_first(self):
        wrong = put(run(), 52, 4, 256)
        answers = [judge(octets) for octets in (run(), wrong, full(), run(), wrong, full())]
        self.assertEqual(answers[:3], answers[3:])

    def test_answer_changed_by_the_caller_is_not_kept(self):
        judge(run()).append(7)
        judge([]).append(7)
        self.assertEqual(judge(run()), [0])
        self.assertEqual(judge([]), [-5, 1, 0])

    def test_whole_numbers_in_a_list(self):
        for octets in (run(), [], put(run(), 80, 1, 0), full()[:-1]):
            answer = judge(octets)
            self.assertIs(type(answer), list)
            self.assertEqual({type(number) for number in answer}, {int})

    def test_too_long_comes_before_the_rules(self):
        self.assertEqual(judge([0] * 1048577), [-6])
        self.assertEqual(judge([0] * 1048576), [-5, 1, 0])


class Head(unittest.TestCase):
    def test_rule_1_too_few(self):
        for count in (0, 1, 4, 79):
            self.assertEqual(judge(run()[:count]), [-5, 1, count])

    def test_rule_1_too_few_comes_before_wrong_first_bytes(self):
        self.assertEqual(judge([9] * 79), [-5, 1, 79])

    def test_rule_1_first_bytes(self):
        for place in range(4):
            for value in (0, 255, run()[place] ^ 32):
                self.assertEqual(judge(put(run(), place, 1, value)), [-5, 1, 0])

    def test_rule_2_bounds_kept(self):
        for place, least, most in NUMBERS:
            for value in (least, most):
                self.assertEqual(judge(put(run(), place, 4, value)), [0], (place, value))

    def test_rule_2_bounds_broken(self):
        for place, least, most in NUMBERS:
            values = [most + 1, 2 ** 24 + 1, 2 ** 31 + 1, 2 ** 32 - 1] + ([0] if least == 1 else [])
            for value in values:
                self.assertEqual(judge(put(run(), place, 4, value)), [-5, 2, place], (place, value))

    def test_rule_2_counts(self):
        for place, most in COUNTS:
            # A count within its bounds is right by itself: it's the length that's wrong then.
            self.assertEqual(judge(put(run(), place, 4, most)), [-5, 3, 4], place)
            for value in (most + 1, 2 ** 31, 2 ** 32 - 1):
                self.assertEqual(judge(put(run(), place, 4, value)), [-5, 2, place], (place, value))

    def test_rule_2_least_place(self):
        places = [place for place, least, most in NUMBERS] + [place for place, most in COUNTS]
        for one, other in zip(places, places[1:]):
            octets = put(put(run(), one, 4, 2 ** 31), other, 4, 2 ** 31)
            self.assertEqual(judge(octets), [-5, 2, one])

    def test_counts_at_their_bounds(self):
        kinds = [(1400 - index, index) for index in range(16)]
        self.assertEqual(judge(workshop(sheets=[(1, 2, 3, 1)] * 1024)), [0])
        self.assertEqual(judge(workshop(kinds=kinds)), [0])
        self.assertEqual(judge(workshop(glasses=[glass()] * 256)), [0])
        self.assertEqual(judge(workshop(kinds=kinds, paintings=[painting(4, (0, 5, 14, 15))] * 256)), [0])

    def test_counts_above_their_bounds(self):
        self.assertEqual(judge(workshop(sheets=[(1, 2, 3, 1)] * 1025)), [-5, 2, 56])
        self.assertEqual(judge(workshop(kinds=[(9, 9)] * 17)), [-5, 2, 60])
        self.assertEqual(judge(workshop(glasses=[glass()] * 257)), [-5, 2, 64])
        self.assertEqual(judge(workshop(kinds=[(9, 9)], paintings=[painting(1, (0, 0, 0, 0))] * 257)), [-5, 2, 68])

    def test_rule_3_one_too_few_one_too_many(self):
        for octets in (run(), full(), workshop()):
            self.assertEqual(judge(octets[:-1]), [-5, 3, 4])
            self.assertEqual(judge(octets + [0]), [-5, 3, 4])

    def test_rule_3_the_size_told(self):
        for size in (0, 123, 125, 2 ** 31, 2 ** 32 - 1):
            self.assertEqual(judge(put(run(), 4, 4, size)), [-5, 3, 4])

    def test_rule_3_each_count(self):
        for place, most in COUNTS:
            value = full()[place]
            self.assertEqual(judge(put(full(), place, 4, value + 1)), [-5, 3, 4])
            self.assertEqual(judge(put(full(), place, 4, value - 1)), [-5, 3, 4])

    def test_eighty_bytes_and_no_cartoon(self):
        octets = workshop([])
        self.assertEqual(len(octets), 80)
        self.assertEqual(judge(octets), [-5, 4, 80])
        self.assertEqual(judge(run()[:80]), [-5, 3, 4])


def full():
    """A workshop with some of everything."""
    paintings = [painting(1, (3, 0, 0, 0)), painting(2, (0, 2, 0, 0)), painting(3, (0, 1, 3, 0))]
    return workshop(sheets=RUN_SHEETS, kinds=KINDS, glasses=[glass(), glass(1)], paintings=paintings)


class Sheets(unittest.TestCase):
    def told(self, *sheets):
        return judge(workshop(sheets=sheets))

    def test_bounds_kept(self):
        self.assertEqual(self.told((0, 1, 1, 0), (65535, 16777215, 16777215, 1)), [0])

    def test_bounds_broken(self):
        wrong = [
            (65536, 5, 5, 0), (2 ** 31 + 5, 5, 5, 0), (1, 0, 5, 0), (1, 16777216, 5, 0), (1, 2 ** 31 + 5, 5, 0),
            (1, 5, 0, 0), (1, 5, 16777216, 0), (1, 5, 2 ** 31 + 5, 0), (1, 5, 5, 2), (1, 5, 5, 256),
            (1, 5, 5, 2 ** 31 + 1),
        ]
        for sheet in wrong:
            self.assertEqual(self.told(sheet), [-5, 5, 204], sheet)
            self.assertEqual(self.told((1, 5, 5, 0), (1, 5, 5, 1), sheet), [-5, 5, 236], sheet)

    def test_least_place(self):
        self.assertEqual(self.told((1, 5, 5, 0), (1, 5, 5, 2), (65536, 5, 5, 0)), [-5, 5, 220])


class Kinds(unittest.TestCase):
    def told(self, *kinds):
        return judge(workshop(sheets=RUN_SHEETS, kinds=kinds))

    def test_bounds_kept(self):
        self.assertEqual(self.told((1, 0), (1400, 9999)), [0])

    def test_bounds_broken(self):
        for kind in [(0, 5), (1401, 5), (2 ** 31 + 5, 5), (5, 10000), (5, 65536), (5, 2 ** 31 + 5)]:
            self.assertEqual(self.told(kind), [-5, 6, 252], kind)
            self.assertEqual(self.told((5, 5), kind), [-5, 6, 260], kind)

    def test_least_place(self):
        self.assertEqual(self.told((5, 5), (5, 10000), (0, 5)), [-5, 6, 260])


class Paintings(unittest.TestCase):
    """The first painting lies at 204 + 4 kinds of 8 bytes + a glass of 64 bytes = 300."""

    FIRST = 300

    def told(self, *coats, kinds=KINDS):
        paintings = [painting(count, four) for count, four in coats]
        return judge(workshop(kinds=kinds, glasses=[glass()], paintings=paintings))

    def test_right(self):
        # The heats of the kinds 0 to 3 are 700, 600, 600, 500.
        for coats in [(1, (0, 0, 0, 0)), (1, (3, 0, 0, 0)), (2, (0, 3, 0, 0)), (2, (1, 3, 0, 0)), (3, (0, 2, 3, 0))]:
            self.assertEqual(self.told(coats), [0], coats)
        kinds = [(1, 0), (2, 0), (3, 0), (1400, 0)]
        self.assertEqual(self.told((4, (3, 2, 1, 0)), kinds=kinds), [0])

    def test_number_of_coats(self):
        for count in (0, 5, 6, 128, 255):
            self.assertEqual(self.told((count, (0, 1, 3, 0))), [-5, 7, self.FIRST + 64], count)
            self.assertEqual(self.told((count, (9, 9, 9, 9))), [-5, 7, self.FIRST + 64], count)

    def test_kinds_not_told(self):
        for count, four, at in [
            (1, (4, 0, 0, 0), 0), (1, (255, 0, 0, 0), 0), (2, (0, 4, 0, 0), 1), (3, (0, 1, 4, 0), 2),
            (4, (0, 1, 3, 4), 3), (2, (4, 4, 4, 4), 0),
        ]:
            self.assertEqual(self.told((count, four)), [-5, 7, self.FIRST + 65 + at], (count, four))

    def test_no_kinds_at_all(self):
        octets = workshop(paintings=[painting(1, (0, 0, 0, 0))])
        self.assertEqual(judge(octets), [-5, 7, 204 + 65])

    def test_heats_that_do_not_fall(self):
        for count, four, at in [
            (2, (0, 0, 0, 0), 1), (2, (1, 2, 0, 0), 1), (2, (3, 0, 0, 0), 1), (3, (0, 1, 2, 0), 2),
            (3, (0, 3, 1, 0), 2), (4, (0, 1, 3, 3), 3), (4, (0, 1, 3, 0), 3), (3, (3, 0, 0, 9), 1),
        ]:
            self.assertEqual(self.told((count, four)), [-5, 7, self.FIRST + 65 + at], (count, four))

    def test_behind_the_coats(self):
        for count, four, at in [
            (1, (0, 1, 0, 0), 1), (1, (0, 0, 3, 0), 2), (1, (0, 0, 0, 255), 3), (2, (0, 3, 1, 0), 2),
            (2, (0, 3, 0, 1), 3), (3, (0, 1, 3, 3), 3), (1, (0, 0, 1, 1), 2),
        ]:
            self.assertEqual(self.told((count, four)), [-5, 7, self.FIRST + 65 + at], (count, four))

    def test_later_painting_and_least_place(self):
        right = (1, (0, 0, 0, 0))
        self.assertEqual(self.told(right, (0, (0, 0, 0, 0))), [-5, 7, self.FIRST + 69 + 64])
        self.assertEqual(self.told(right, right, (2, (0, 0, 0, 0))), [-5, 7, self.FIRST + 138 + 66])
        # A later painting's number of coats doesn't come before an earlier one's byte.
        self.assertEqual(self.told((1, (0, 0, 0, 1)), (0, (0, 0, 0, 0))), [-5, 7, self.FIRST + 68])


class Order(unittest.TestCase):
    def test_first_broken_rule_is_told(self):
        """Rules are broken from the last to the first, all that are broken already staying so."""
        octets = full()
        kinds_place = 204 + 48
        paintings_place = kinds_place + 4 * 8 + 2 * 64
        self.assertEqual(judge(octets), [0])
        for place, size, value, expected in [
            (paintings_place + 64, 1, 0, [-5, 7, paintings_place + 64]),
            (kinds_place, 4, 0, [-5, 6, kinds_place]),
            (204, 4, 65536, [-5, 5, 204]),
            (80 + 4, 4, 15, [-5, 4, 84]),
            (4, 4, 123, [-5, 3, 4]),
            (68, 4, 257, [-5, 2, 68]),
            (8, 4, 1001, [-5, 2, 8]),
            (0, 1, 0, [-5, 1, 0]),
        ]:
            octets = put(octets, place, size, value)
            self.assertEqual(judge(octets), expected)
        self.assertEqual(judge(octets[:79]), [-5, 1, 79])


if __name__ == "__main__":
    unittest.main()
