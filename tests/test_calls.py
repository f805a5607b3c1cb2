"""The whole program: no call changes what another answers, and what the five tell of one workshop belongs together."""

import inspect
import random
import unittest

from glasspages import pages
from tests.broken import broken_cartoons, broken_workshops
from tests.builder import cartoon, put, run, workshop
from tests.cartoons import BARE_CARTOON, RUN_CARTOON, SPOKES_CARTOON
from tests.parts import full_parts, octets_of, page_of, run_parts, small_parts
from tests.test_printed import RUN_PAGE

DRAWING = ("width", "height", "points", "lines", "marks")


def counted(octets):
    return [0, len(octets)] + octets


def right_calls():
    """Calls that are not refused, with their answers, made without the program."""
    calls = []
    for parts in (run_parts(), full_parts(), small_parts()):
        octets, page = octets_of(parts), page_of(parts)
        planned = cartoon(*[parts[name] for name in DRAWING])
        other = {**parts, **{name: small_parts()[name] for name in DRAWING}}
        smaller = cartoon(*[other[name] for name in DRAWING])
        calls += [
            ("judge", (octets,), [0]), ("printed", (octets,), counted(page)), ("read", (page,), counted(octets)),
            ("plan", (octets,), counted(planned)), ("with_cartoon", (octets, planned), counted(octets)),
            ("with_cartoon", (octets, smaller), counted(octets_of(other))),
        ]
    return calls


def refused_calls():
    """Calls that are refused, with their answers."""
    calls = []
    for rule, octets, place in broken_workshops()[::4]:
        calls += [(name, (octets,), [-5, rule, place]) for name in ("judge", "printed", "plan")]
        calls.append(("with_cartoon", (octets, RUN_CARTOON), [-5, rule, place]))
    for rule, planned, place in broken_cartoons()[::4]:
        calls.append(("with_cartoon", (run(), planned), [-5, 32 + rule, place]))
    ways = RUN_PAGE.replace(b"ways 7\n", b"ways 256\n")
    return calls + [
        ("read", ([],), [-5, 1, 0]), ("read", (list(RUN_PAGE[:-1]),), [-5, 1, len(RUN_PAGE) - 1]),
        ("read", (list(ways),), [-5, 18, 52]), ("read", (run(),), [-5, 1, 0]),
        ("judge", ([0] * 1048577,), [-6]), ("printed", ([0] * 1048577,), [-6]), ("plan", ([0] * 1048577,), [-6]),
        ("read", ([0] * 4194305,), [-6]), ("with_cartoon", (run(), [0] * 131073), [-6]),
    ]


class Sealed(list):
    """A list that can't be changed, not for a while either."""

    def refuse(self, *given, **named):
        raise AssertionError("what is handed in was changed")

    append = extend = insert = pop = remove = clear = sort = reverse = refuse
    __setitem__ = __delitem__ = __iadd__ = __imul__ = refuse


def made(call):
    return getattr(pages, call[0])(*call[1])


class Between(unittest.TestCase):
    def assert_made(self, call):
        self.assertEqual(made(call), call[2], call[0])

    def test_each_call_between_two_of_each(self):
        calls = right_calls() + refused_calls()
        self.assertEqual({call[0] for call in calls}, {"judge", "printed", "read", "plan", "with_cartoon"})
        for call in calls:
            self.assert_made(call)
            for between in calls:
                self.assert_made(between)
                self.assert_made(call)

    def test_in_any_order(self):
        source = random.Random(11)
        calls = right_calls() + refused_calls()
        for count in range(20):
            source.shuffle(calls)
            for call in calls:
                self.assert_made(call)

    def test_what_is_handed_in_stays(self):
        calls = right_calls() + refused_calls()
        before = [tuple(list(given) for given in call[1]) for call in calls]
        for call in calls:
            self.assert_made(call)
        self.assertEqual([call[1] for call in calls], before)

    def test_what_is_handed_in_is_not_changed_for_a_while(self):
        for name, given, answer in right_calls() + refused_calls():
            self.assert_made((name, tuple(Sealed(octets) for octets in given), answer))

    def test_answers_changed_by_the_caller(self):
        """An answer handed on and changed there changes neither what was handed in nor a later answer."""
        for call in right_calls() + refused_calls():
            answer = made(call)
            for place in range(len(answer)):
                answer[place] = 5
            answer.clear()
            self.assert_made(call)

    def test_one_list_changed_between_calls(self):
        """What a list held at an earlier call is not remembered."""
        octets = run()
        planned = list(RUN_CARTOON)
        self.assertEqual(pages.judge(octets), [0])
        self.assertEqual(pages.with_cartoon(octets, planned), counted(run()))
        planned[0] = 0
        self.assertEqual(pages.with_cartoon(octets, planned), [-5, 33, 0])
        planned[:] = BARE_CARTOON
        expected = put(run()[:80] + BARE_CARTOON + run()[204:], 4, 4, 80)
        self.assertEqual(pages.with_cartoon(octets, planned), counted(expected))
        octets[:] = expected
        self.assertEqual(pages.plan(octets), counted(BARE_CARTOON))
        octets[52] = 0
        for call in (pages.judge, pages.printed, pages.plan):
            self.assertEqual(call(octets), [-5, 2, 52])
        self.assertEqual(pages.with_cartoon(octets, planned), [-5, 2, 52])


class Chains(unittest.TestCase):
    def test_what_the_five_tell_belongs_together(self):
        for planned in (RUN_CARTOON, BARE_CARTOON, SPOKES_CARTOON):
            for octets in (run(), octets_of(full_parts()), workshop(BARE_CARTOON)):
                other = pages.with_cartoon(octets, planned)[2:]
                self.assertEqual(pages.judge(other), [0])
                self.assertEqual(pages.plan(other), counted(planned))
                page = pages.printed(other)[2:]
                self.assertEqual(pages.read(page), counted(other))
                self.assertEqual(pages.printed(pages.read(page)[2:]), counted(page))
                self.assertEqual(pages.with_cartoon(other, pages.plan(octets)[2:]), counted(octets))


class Interface(unittest.TestCase):
    def test_names_and_arguments(self):
        for name, arguments in [
            ("judge", ["workshop"]), ("printed", ["workshop"]), ("read", ["text"]), ("plan", ["workshop"]),
            ("with_cartoon", ["workshop", "cartoon"]),
        ]:
            self.assertEqual(list(inspect.signature(getattr(pages, name)).parameters), arguments)


if __name__ == "__main__":
    unittest.main()
