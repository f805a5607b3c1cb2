"""Plans: a workshop's cartoon as it stands in its bytes, and what is refused."""

import random
import unittest

from glasspages.pages import judge, plan, printed, read
from tests.broken import broken_cartoons, broken_workshops
from tests.builder import RUN_SHEETS, cartoon, glass, painting, put, run, workshop
from tests.cartoons import RUN_CARTOON, cartoons_and_surroundings, small_cartoons, surroundings
from tests.large import crowded_cartoon, grid
from tests.parts import full_parts, octets_of, page_of, run_parts, small_parts
from tests.test_printed import random_parts


class Plan(unittest.TestCase):
    def assert_plan(self, octets, planned):
        self.assertEqual(plan(octets), [0, len(planned)] + planned)

    def test_run(self):
        self.assertEqual(len(RUN_CARTOON), 124)
        self.assertEqual(len(run()), 252)
        self.assertEqual(plan(run()), [0, 124] + RUN_CARTOON)

    def test_each_cartoon_with_and_without_each_part(self):
        self.assertEqual((len(surroundings()), len(surroundings()[0]), len(surroundings()[-1])), (12, 0, 4))
        for planned, parts in cartoons_and_surroundings():
            self.assert_plan(workshop(planned, **parts), planned)

    def test_other_numbers_of_the_head(self):
        for numbers, shelf in [([0, 1] * 2 + [0] * 2 + [1] * 2 + [0] * 3 + [1], 0), ([255] * 12, 2 ** 64 - 1)]:
            for planned in small_cartoons():
                self.assert_plan(workshop(planned, RUN_SHEETS, numbers=numbers, shelf=shelf), planned)

    def test_a_workshop_s_own_bytes_within_its_shop(self):
        """Numbers behind the cartoon that look like one don't draw the plan on."""
        signs = int.from_bytes(b"GLA1", "little") % 65536
        sheets = [(signs, signs, signs, 1)] * 3
        self.assert_plan(workshop(RUN_CARTOON, sheets, glasses=[RUN_CARTOON[:64]]), RUN_CARTOON)

    def test_parts(self):
        source = random.Random(9)
        for parts in [run_parts(), full_parts(), small_parts()] + [random_parts(source) for count in range(60)]:
            planned = cartoon(*[parts[name] for name in ("width", "height", "points", "lines", "marks")])
            self.assert_plan(octets_of(parts), planned)

    def test_of_a_page_that_is_read(self):
        for parts in (run_parts(), full_parts(), small_parts()):
            octets = read(page_of(parts))[2:]
            self.assertEqual(plan(octets), plan(octets_of(parts)))
            self.assertEqual(plan(octets)[0], 0)

    def test_cartoon_planned_is_one(self):
        """Put into another workshop's place, the plan is judged as a cartoon."""
        for octets in (run(), octets_of(full_parts()), workshop(grid(), RUN_SHEETS)):
            self.assertEqual(judge(workshop(plan(octets)[2:])), [0])


class Refused(unittest.TestCase):
    def assert_refused(self, octets, rule, place):
        self.assertEqual(plan(octets), [-5, rule, place])
        self.assertEqual(judge(octets), [-5, rule, place])

    def test_each_rule_of_workshops(self):
        seen = set()
        for rule, octets, place in broken_workshops():
            self.assert_refused(octets, rule, place)
            seen.add(rule)
        self.assertEqual(seen, set(range(1, 8)))

    def test_each_rule_of_cartoons(self):
        seen = set()
        for rule, octets, place in broken_cartoons():
            for parts in surroundings():
                self.assert_refused(workshop(octets, **parts), 4, 80 + place)
            seen.add(rule)
        self.assertEqual(seen, set(range(1, 14)))

    def test_too_few(self):
        self.assertEqual(plan([]), [-5, 1, 0])
        for count in range(80):
            self.assert_refused(run()[:count], 1, count)
            self.assert_refused([0] * count, 1, count)

    def test_just_80(self):
        self.assert_refused(run()[:80], 3, 4)
        self.assert_refused(workshop([]), 4, 80)
        self.assert_refused([0] * 80, 1, 0)

    def test_every_beginning(self):
        for count in range(80, 252):
            self.assert_refused(run()[:count], 3, 4)

    def test_count_of_the_cartoon(self):
        for octets in (run(), octets_of(full_parts()), workshop()):
            for count in (0, 1, 20, 123, 125, 124 + 48, len(octets), 65536 + 124, 2 ** 24 + 124, 2 ** 31, 2 ** 32 - 1):
                self.assert_refused(put(octets, 4, 4, count), 3, 4)

    def test_count_of_the_cartoon_at_another_s_cost(self):
        """As many bytes as are told in all, but the cartoon's end is elsewhere."""
        longer = put(put(run(), 4, 4, 124 + 16), 56, 4, 2)
        self.assert_refused(longer, 4, 100)
        shorter = put(put(run(), 4, 4, 124 - 16), 56, 4, 4)
        self.assert_refused(shorter, 4, 100)
        none = put(put(run()[:80] + run()[204:], 4, 4, 0), 56, 4, 3)
        self.assert_refused(none, 4, 80)

    def test_a_cartoon_or_a_page_is_no_workshop(self):
        self.assert_refused(RUN_CARTOON, 1, 0)
        self.assert_refused(page_of(run_parts()), 1, 0)

    def test_too_long_comes_before_the_rules(self):
        self.assertEqual(plan([0] * 1048577), [-6])
        self.assertEqual(plan([0] * 1048576), [-5, 1, 0])


class Large(unittest.TestCase):
    """As many numbers as may be handed in: 100,000."""

    def test_100000_numbers_that_are_none(self):
        for octets, answer in [
            ([0] * 100000, [-5, 1, 0]), ([255] * 100000, [-5, 1, 0]), (list(b"GLAW") + [255] * 99996, [-5, 2, 8]),
            (run() + [0] * (100000 - 252), [-5, 3, 4]),
        ]:
            self.assertEqual(plan(octets), answer)

    def test_crowded(self):
        paintings = [painting(1, (0, 0, 0, 0))] * 252
        octets = workshop(crowded_cartoon(), [(1, 1, 1, 1)] * 449, [], [glass()] * 256, paintings)
        self.assertEqual(len(octets), 100000)
        self.assertEqual(plan(octets), judge(octets))
        self.assertEqual(plan(octets)[:2], [-5, 4])

    def test_largest_of_each_part(self):
        kinds = [(1400 - number, 0) for number in range(16)]
        paintings = [painting(4, (12, 13, 14, 15), 65535)] * 256
        octets = workshop(grid(), [(65535, 16777215, 1, 1)] * 1024, kinds, [glass()] * 256, paintings)
        self.assertEqual(plan(octets), [0, len(grid())] + grid())


class Calls(unittest.TestCase):
    def inputs(self):
        right = [run(), octets_of(full_parts()), workshop(grid(), RUN_SHEETS)]
        return right + [[], run()[:-1]] + [octets for rule, octets, place in broken_workshops()]

    def test_what_is_handed_in_stays(self):
        for octets in self.inputs():
            before = list(octets)
            plan(octets)
            self.assertEqual(octets, before)

    def test_second_call_answers_as_first(self):
        first = [plan(octets) for octets in self.inputs()]
        self.assertEqual([plan(octets) for octets in self.inputs()], first)
        self.assertEqual([plan(octets) for octets in reversed(self.inputs())], first[::-1])

    def test_calls_of_the_others_between(self):
        first = [plan(octets) for octets in self.inputs()]
        for octets, answer in zip(self.inputs(), first):
            judge(octets)
            printed(octets)
            read(octets)
            self.assertEqual(plan(octets), answer)

    def test_answer_is_a_new_list(self):
        for octets in self.inputs():
            before = list(octets)
            answer = plan(octets)
            told = list(answer)
            self.assertIsNot(answer, octets)
            self.assertIsNot(plan(octets), answer)
            answer.append(7)
            answer[0] = 9
            answer[-2] = 9
            self.assertEqual(octets, before)
            self.assertEqual(plan(octets), told)

    def test_whole_numbers_in_a_list(self):
        for octets in self.inputs():
            answer = plan(octets)
            self.assertIs(type(answer), list)
            self.assertEqual({type(number) for number in answer}, {int})


if __name__ == "__main__":
    unittest.main()
