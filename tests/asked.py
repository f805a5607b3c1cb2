"""Calls asked together with others that must agree with them, so that a test of the one is a test of all.

Workshops: judge, and the calls that refuse what it refuses. Cartoons: with_cartoon, which judges them by themselves.
"""

from glasspages import cartoon, pages
from tests.builder import RUN_SHEETS, glass, painting, workshop
from tests.cartoons import BARE_CARTOON
from tests.parts import KINDS


def shop(planned):
    """A workshop with some of everything behind that cartoon."""
    paintings = [painting(2, (0, 3, 0, 0), 7), painting(1, (1, 0, 0, 0))]
    return workshop(planned, RUN_SHEETS, KINDS, [glass(), glass(258)], paintings)


def agreeing(call, answer, expected):
    if answer != expected:
        raise AssertionError(f"{call}: {answer[:5]} in the place of {expected[:5]}")


def cartoon_told(octets):
    """The cartoon of a workshop's bytes, found without the program."""
    return octets[80:80 + int.from_bytes(bytes(octets[4:8]), "little")]


def judge(octets):
    """What judge answers. The others refuse the same; of a workshop, plan and with_cartoon give what's its own."""
    answer = pages.judge(octets)
    if answer == [0]:
        planned = cartoon_told(octets)
        agreeing("plan", pages.plan(octets), [0, len(planned)] + planned)
        agreeing("with_cartoon", pages.with_cartoon(octets, planned), [0, len(octets)] + octets)
    else:
        agreeing("printed", pages.printed(octets), answer)
        agreeing("plan", pages.plan(octets), answer)
        agreeing("with_cartoon", pages.with_cartoon(octets, BARE_CARTOON), answer)
        agreeing("with_cartoon", pages.with_cartoon(octets, []), answer)
    return answer


def cartoon_fault(octets):
    """(rule, place) that with_cartoon tells of a cartoon handed in, less the 32, or None if it's taken."""
    fault = cartoon.cartoon_fault(octets)
    if fault is None:
        expected = [0, len(shop(octets))] + shop(octets)
    else:
        expected = [-5, 32 + fault[0], fault[1]]
    agreeing("with_cartoon", pages.with_cartoon(shop(BARE_CARTOON), octets), expected)
    return fault
