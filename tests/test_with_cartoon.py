"""Workshops with another cartoon: their bytes, and what is refused of the workshop and of the cartoon."""

import random
import unittest

from glasspages.pages import judge, plan, printed, read, with_cartoon
from tests import reference
from tests.broken import broken_cartoons, broken_workshops
from tests.builder import RUN_SHEETS, cartoon, drawn, glass, numbered, painting, put, run, workshop
from tests.cartoons import (
    BARE_CARTOON, RUN_CARTOON, SPOKES_CARTOON, cartoons_and_surroundings, large_cartoons, small_cartoons, surroundings,
)
from tests.large import crowded_cartoon, fan_cartoon, free_places, grid, grid_pairs
from tests.parts import full_parts, octets_of, page_of, run_parts, small_parts
from tests.test_printed import random_parts

MOST_WORKSHOP, MOST_CARTOON = 80000, 20000

# What stands before the run's cartoon, but for the count of its bytes, and behind it: written out by hand.
RUN_SIGN = list(bytes.fromhex("474C4157"))
RUN_HEAD = list(bytes.fromhex(
    "01000000 01000000 01000000 03000000 05000000  01000000 01000000 3C000000 02000000 01000000"
    "01000000 07000000  03000000 00000000 00000000 00000000  E803000000000000"
))
RUN_TAIL = list(bytes.fromhex(
    "07000000 28000000 1E000000 00000000  05000000 0C000000 32000000 01000000"
    "06000000 0C000000 16000000 00000000"
))


def parts_with(parts, other):
    """The parts with the drawing of the others."""
    return {**parts, **{name: other[name] for name in ("width", "height", "points", "lines", "marks")}}


class Run(unittest.TestCase):
    def test_its_own(self):
        self.assertEqual(run(), RUN_SIGN + [124, 0, 0, 0] + RUN_HEAD + RUN_CARTOON + RUN_TAIL)
        self.assertEqual(with_cartoon(run(), RUN_CARTOON), [0, 252] + run())

    def test_a_smaller_one(self):
        expected = RUN_SIGN + [80, 0, 0, 0] + RUN_HEAD + BARE_CARTOON + RUN_TAIL
        self.assertEqual(with_cartoon(run(), BARE_CARTOON), [0, 208] + expected)

    def test_a_larger_one(self):
        expected = RUN_SIGN + [140, 0, 0, 0] + RUN_HEAD + SPOKES_CARTOON + RUN_TAIL
        self.assertEqual(with_cartoon(run(), SPOKES_CARTOON), [0, 268] + expected)

    def test_one_as_large(self):
        other = cartoon(marks=[(14, 3, 9, 9), (3, 11, 8, 8), (21, 16, 65535, 65535)])
        expected = RUN_SIGN + [124, 0, 0, 0] + RUN_HEAD + other + RUN_TAIL
        self.assertEqual(with_cartoon(run(), other), [0, 252] + expected)

    def test_one_whose_bytes_are_counted_in_two(self):
        self.assertEqual(len(grid()), 7888)
        expected = RUN_SIGN + [208, 30, 0, 0] + RUN_HEAD + grid() + RUN_TAIL
        self.assertEqual(with_cartoon(run(), grid()), [0, 8016] + expected)

    def test_its_page(self):
        page = bytes(printed(with_cartoon(run(), BARE_CARTOON)[2:])[2:])
        start = b"workshop\nwindow 16 16\npoint 0 0\npoint 16 0\npoint 0 16\npoint 16 16\n"
        lines = b"line 0 1\nline 0 2\nline 1 3\nline 2 3\npane 8 8 0 0\n"
        rest = bytes(page_of(run_parts()))
        self.assertEqual(page, start + lines + rest[rest.index(b"cut"):])


class Promises(unittest.TestCase):
    def assert_with(self, octets, planned, expected):
        """The bytes are those expected, their plan is the cartoon, and their page is theirs."""
        self.assertEqual(with_cartoon(octets, planned), [0, len(expected)] + expected)
        self.assertEqual(judge(expected), [0])
        self.assertEqual(plan(expected), [0, len(planned)] + planned)
        page = printed(expected)
        self.assertEqual(page[0], 0)
        self.assertEqual(read(page[2:]), [0, len(expected)] + expected)

    def test_each_cartoon_in_the_place_of_each(self):
        cartoons = small_cartoons()[:3] + large_cartoons()[:2]
        for one in cartoons:
            for other in cartoons:
                self.assert_with(workshop(one, RUN_SHEETS), other, workshop(other, RUN_SHEETS))

    def test_with_and_without_each_part(self):
        for planned, parts in cartoons_and_surroundings():
            self.assert_with(workshop(RUN_CARTOON, **parts), planned, workshop(planned, **parts))

    def test_with_its_own_plan_it_is_itself(self):
        for planned, parts in cartoons_and_surroundings():
            octets = workshop(planned, **parts)
            self.assertEqual(with_cartoon(octets, plan(octets)[2:]), [0, len(octets)] + octets)

    def test_there_and_back(self):
        for octets in (run(), octets_of(full_parts()), octets_of(small_parts())):
            own = plan(octets)[2:]
            for planned in small_cartoons() + large_cartoons()[:1]:
                other = with_cartoon(octets, planned)[2:]
                self.assertEqual(with_cartoon(other, own), [0, len(octets)] + octets)
                # What was there before the last cartoon leaves nothing behind.
                self.assertEqual(with_cartoon(other, BARE_CARTOON), with_cartoon(octets, BARE_CARTOON))

    def test_numbers_of_the_head_stay(self):
        for index in range(12):
            for value in (1, 2, 100, 255):
                numbers = [1] * 12
                numbers[index] = value
                octets = workshop(RUN_CARTOON, RUN_SHEETS, numbers=numbers, shelf=2 ** 64 - 1 - value)
                expected = workshop(SPOKES_CARTOON, RUN_SHEETS, numbers=numbers, shelf=2 ** 64 - 1 - value)
                self.assertEqual(with_cartoon(octets, SPOKES_CARTOON), [0, len(expected)] + expected)

    def test_marks_glass_and_painting_need_not_be_there(self):
        marks = [(15, 2, 65535, 65535), (2, 10, 0, 9), (20, 15, 7, 300)]
        self.assert_with(workshop(), cartoon(marks=marks), workshop(cartoon(marks=marks)))

    def test_random_workshops(self):
        source = random.Random(10)
        for count in range(60):
            parts, other = random_parts(source), source.choice([random_parts(source), small_parts()])
            planned = cartoon(*[other[name] for name in ("width", "height", "points", "lines", "marks")])
            expected = parts_with(parts, other)
            self.assert_with(octets_of(parts), planned, octets_of(expected))
            self.assertEqual(printed(octets_of(expected))[2:], page_of(expected))


class CartoonRefused(unittest.TestCase):
    def assert_refused(self, planned, rule, place):
        """Told the same whatever the workshop that's right."""
        for octets in (run(), workshop(), octets_of(full_parts()), workshop(SPOKES_CARTOON)):
            self.assertEqual(with_cartoon(octets, planned), [-5, rule, place])

    def test_each_rule(self):
        seen = set()
        for rule, planned, place in broken_cartoons():
            self.assert_refused(planned, 32 + rule, place)
            seen.add(32 + rule)
        self.assertEqual(seen, set(range(33, 46)))

    def test_rule_33_too_few(self):
        self.assert_refused([], 33, 0)
        for count in range(20):
            self.assert_refused(RUN_CARTOON[:count], 33, count)
            self.assert_refused([0] * count, 33, count)

    def test_rule_33_first_bytes(self):
        self.assert_refused([0] * 20, 33, 0)
        for place in range(4):
            self.assert_refused(put(RUN_CARTOON, place, 1, 0), 33, 0)
        for other in (run(), page_of(run_parts())):
            self.assert_refused(other, 33, 0)

    def test_rule_35_every_beginning(self):
        for count in range(20, 124):
            self.assert_refused(RUN_CARTOON[:count], 35, 20)

    def test_counts_are_the_cartoon_s_own(self):
        """A count at 4 of the workshop's that would fit makes the cartoon no better."""
        self.assert_refused(RUN_CARTOON + [0], 35, 20)
        self.assert_refused(RUN_CARTOON + RUN_TAIL, 35, 20)
        self.assert_refused(put(RUN_CARTOON, 12, 2, 6), 35, 20)

    def test_place_is_that_in_the_cartoon_s_bytes(self):
        self.assert_refused(put(RUN_CARTOON, 8, 4, 15), 34, 8)
        self.assert_refused(put(RUN_CARTOON, 18, 2, 256), 34, 18)
        self.assert_refused(put(RUN_CARTOON, 112, 4, 30), 43, 112)
        self.assert_refused(RUN_CARTOON[:16] + [2] + RUN_CARTOON[17:112], 45, 112)

    def test_first_broken_rule(self):
        """Of the cartoon: rules are broken from the last to the first."""
        octets = cartoon(marks=[(15, 2), (16, 2)])
        for place, size, value, rule, at in [
            (0, 1, 71, 44, 100), (92, 4, 0, 43, 88), (84, 4, 4 * 65536 + 2, 38, 20), (84, 2, 4, 37, 84),
            (28, 4, 31, 36, 28), (16, 2, 3, 35, 20), (4, 4, 15, 34, 4), (0, 1, 70, 33, 0),
        ]:
            octets = put(octets, place, size, value)
            self.assert_refused(octets, rule, at)


class WorkshopRefused(unittest.TestCase):
    def test_each_rule_with_a_right_cartoon(self):
        seen = set()
        for rule, octets, place in broken_workshops():
            for planned in (RUN_CARTOON, BARE_CARTOON, SPOKES_CARTOON):
                self.assertEqual(with_cartoon(octets, planned), [-5, rule, place])
            seen.add(rule)
        self.assertEqual(seen, set(range(1, 8)))

    def test_each_rule_with_a_cartoon_that_is_refused_too(self):
        for rule, octets, place in broken_workshops():
            for cartoon_rule, planned, cartoon_place in broken_cartoons() + [(1, [], 0)]:
                self.assertEqual(with_cartoon(octets, planned), [-5, rule, place])

    def test_its_own_cartoon_is_none(self):
        for rule, planned, place in broken_cartoons():
            for parts in surroundings():
                octets = workshop(planned, **parts)
                self.assertEqual(with_cartoon(octets, RUN_CARTOON), [-5, 4, 80 + place])
                self.assertEqual(with_cartoon(octets, planned), [-5, 4, 80 + place])

    def test_too_few(self):
        self.assertEqual(with_cartoon([], []), [-5, 1, 0])
        for count in range(80):
            self.assertEqual(with_cartoon(run()[:count], RUN_CARTOON), [-5, 1, count])
        self.assertEqual(with_cartoon(run()[:80], RUN_CARTOON), [-5, 3, 4])
        self.assertEqual(with_cartoon(workshop([]), RUN_CARTOON), [-5, 4, 80])

    def test_count_of_the_cartoon(self):
        """A count at 4 that's wrong isn't mended by the cartoon handed in."""
        for count in (0, 80, 123, 125, 140, 2 ** 31, 2 ** 32 - 1):
            for planned in (RUN_CARTOON, BARE_CARTOON, SPOKES_CARTOON):
                self.assertEqual(with_cartoon(put(run(), 4, 4, count), planned), [-5, 3, 4])

    def test_handed_in_the_wrong_way_round(self):
        self.assertEqual(with_cartoon(RUN_CARTOON, run()), [-5, 1, 0])


class TooLong(unittest.TestCase):
    def test_workshop(self):
        self.assertEqual(with_cartoon([0] * 1048577, RUN_CARTOON), [-6])
        self.assertEqual(with_cartoon([0] * 1048577, []), [-6])
        self.assertEqual(with_cartoon([0] * 1048576, RUN_CARTOON), [-5, 1, 0])

    def test_cartoon(self):
        self.assertEqual(with_cartoon(run(), [0] * 131073), [-6])
        self.assertEqual(with_cartoon(run(), RUN_CARTOON + [0] * (131073 - 124)), [-6])
        self.assertEqual(with_cartoon(run(), [0] * 131072), [-5, 33, 0])
        self.assertEqual(with_cartoon(run(), RUN_CARTOON + [0] * (131072 - 124)), [-5, 35, 20])

    def test_cartoon_before_the_workshop_s_rules(self):
        self.assertEqual(with_cartoon([], [0] * 131073), [-6])
        self.assertEqual(with_cartoon(run()[:-1], [0] * 131073), [-6])
        self.assertEqual(with_cartoon([], [0] * 131072), [-5, 1, 0])


class Large(unittest.TestCase):
    """As many numbers as may be handed in: 80,000 of a workshop, 20,000 of a cartoon."""

    def largest_workshop(self):
        """The largest that's right of those whose cartoon has 200 points."""
        kinds = [(1400 - number, 0) for number in range(16)]
        paintings = [painting(4, (12, 13, 14, 15), 65535)] * 256
        return workshop(fan_cartoon(), [(65535, 16777215, 1, 1)] * 1024, kinds, [glass()] * 256, paintings)

    def crowded_workshop(self):
        paintings = [painting(1, (0, 0, 0, 0))] * 4
        return workshop(crowded_cartoon(), [(1, 1, 1, 1)] * 1024, [(1, 0)], [glass()] * 67, paintings)

    def net(self, marks):
        """A net of 200 points in just 20,000 bytes, two of its slants left out."""
        slants = [((0, 0), (10, 10)), ((180, 80), (190, 90))]
        octets = drawn(190, 90, [pair for pair in grid_pairs() if pair not in slants], marks)
        self.assertEqual(len(octets), MOST_CARTOON)
        return octets

    def test_largest_that_are_right(self):
        octets = self.largest_workshop()
        self.assertEqual(len(octets), 59360)
        self.assertEqual(with_cartoon(octets, fan_cartoon()), [0, 59360] + octets)
        expected = octets[:4] + [208, 30, 0, 0] + octets[8:80] + grid() + octets[80 + 8720:]
        self.assertEqual(with_cartoon(octets, grid()), [0, len(expected)] + expected)

    def test_wrong_at_their_ends(self):
        octets = self.largest_workshop()
        self.assertEqual(with_cartoon(octets[:-1] + [12], fan_cartoon()), [-5, 7, 59359])
        planned = fan_cartoon()
        planned = planned[:16] + [137] + planned[17:-12]
        self.assertEqual(with_cartoon(octets, planned), [-5, 45, 8708])

    def test_80000_numbers(self):
        octets = self.crowded_workshop()
        self.assertEqual(len(octets), MOST_WORKSHOP)
        rule, place = reference.broken(crowded_cartoon())
        for planned in (fan_cartoon(), self.net(free_places()[:1352])):
            self.assertEqual(with_cartoon(octets, planned), [-5, 4, 80 + place])
        for octets, answer in [
            ([0] * MOST_WORKSHOP, [-5, 1, 0]), ([255] * MOST_WORKSHOP, [-5, 1, 0]),
            (list(b"GLAW") + [255] * (MOST_WORKSHOP - 4), [-5, 2, 8]),
            (run() + [0] * (MOST_WORKSHOP - 252), [-5, 3, 4]),
        ]:
            self.assertEqual(with_cartoon(octets, fan_cartoon()), answer)

    def test_20000_numbers(self):
        octets = self.largest_workshop()
        for planned in ([0] * MOST_CARTOON, [255] * MOST_CARTOON, list(b"GLA1") + [255] * (MOST_CARTOON - 4),
                        RUN_CARTOON + [0] * (MOST_CARTOON - 124)):
            rule, place = reference.broken(planned)
            self.assertEqual(with_cartoon(octets, planned), [-5, 32 + rule, place])

    def test_20000_numbers_of_marks(self):
        marks = free_places()[:1352]
        for planned, wanted in [(self.net(marks), 12), (self.net(marks[:-1] + [(189, 90)]), 11)]:
            rule, place = reference.broken(planned)
            self.assertEqual(rule, wanted)
            self.assertEqual(with_cartoon(self.largest_workshop(), planned), [-5, 32 + rule, place])

    def test_20000_numbers_of_lines(self):
        points = numbered([end for pair in grid_pairs() for end in pair], [])[0]
        lines = [(one, other) for one in range(200) for other in range(one + 1, 200)][:4591] + [(198, 199)]
        planned = cartoon(190, 90, points, lines, [(7, 2)])
        self.assertEqual(len(planned), MOST_CARTOON)
        rule, place = reference.broken(planned)
        self.assertEqual(with_cartoon(self.largest_workshop(), planned), [-5, 32 + rule, place])


class Calls(unittest.TestCase):
    def inputs(self):
        """Pairs of a workshop and a cartoon, some right, some not."""
        workshops = [run(), octets_of(full_parts()), workshop(BARE_CARTOON), [], run()[:-1]]
        workshops += [octets for rule, octets, place in broken_workshops()[:14]]
        cartoons = small_cartoons() + [[]] + [planned for rule, planned, place in broken_cartoons()]
        return [(octets, planned) for octets in workshops for planned in cartoons]

    def both(self):
        """Lists that are handed in as workshop and cartoon at once, with the answers."""
        return [
            (run(), [-5, 33, 0]), (octets_of(full_parts()), [-5, 33, 0]), (list(RUN_CARTOON), [-5, 1, 0]),
            ([], [-5, 1, 0]), ([0] * 19, [-5, 1, 19]), (workshop([]), [-5, 4, 80]),
        ]

    def test_what_is_handed_in_stays(self):
        for octets, planned in self.inputs():
            before = (list(octets), list(planned))
            with_cartoon(octets, planned)
            self.assertEqual((octets, planned), before)

    def test_one_list_as_both(self):
        for octets, answer in self.both():
            before = list(octets)
            self.assertEqual(with_cartoon(octets, octets), answer)
            self.assertEqual(octets, before)
            self.assertEqual(with_cartoon(octets, list(octets)), answer)

    def test_second_call_answers_as_first(self):
        first = [with_cartoon(octets, planned) for octets, planned in self.inputs()]
        self.assertEqual([with_cartoon(octets, planned) for octets, planned in self.inputs()], first)
        self.assertEqual([with_cartoon(octets, planned) for octets, planned in reversed(self.inputs())], first[::-1])

    def test_answer_is_a_new_list(self):
        for octets, planned in self.inputs():
            before = (list(octets), list(planned))
            answer = with_cartoon(octets, planned)
            told = list(answer)
            self.assertFalse(answer is octets or answer is planned)
            self.assertIsNot(with_cartoon(octets, planned), answer)
            for place in range(len(answer)):
                answer[place] = 9
            answer.append(7)
            self.assertEqual((octets, planned), before)
            self.assertEqual(with_cartoon(octets, planned), told)

    def test_whole_numbers_in_a_list(self):
        for octets, planned in self.inputs():
            answer = with_cartoon(octets, planned)
            self.assertIs(type(answer), list)
            self.assertEqual({type(number) for number in answer}, {int})


if __name__ == "__main__":
    unittest.main()
