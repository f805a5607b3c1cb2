"""The calls. Each answers a list of whole numbers, a refusal's first number below 0."""

from glasspages.printing import page_of
from glasspages.workshop import workshop_fault

MOST_WORKSHOP_BYTES = 1048576
TOO_LONG = -6
BROKEN_RULE = -5


def judge(workshop):
    """[0] if the bytes are a workshop, else [-5, rule, place]; [-6] if they are too many."""
    if len(workshop) > MOST_WORKSHOP_BYTES:
        return [TOO_LONG]
    fault = workshop_fault(workshop)
    if fault is None:
        return [0]
    return [BROKEN_RULE, fault[0], fault[1]]


def told(octets):
    return [0, len(octets)] + octets


def printed(workshop):
    """0, how many bytes the workshop's page has, and these; of no workshop what judge answers."""
    answer = judge(workshop)
    if answer[0] < 0:
        return answer
    return told(page_of(workshop))
