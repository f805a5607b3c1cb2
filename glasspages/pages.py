"""The calls. Each answers a list of whole numbers, a refusal's first number below 0."""

from glasspages.cartoon import cartoon_fault
from glasspages.printing import page_of
from glasspages.reading import scan_of
from glasspages.telling import workshop_told
from glasspages.workshop import cartoon_within, changed_cartoon, workshop_fault

MOST_WORKSHOP_BYTES = 1048576
MOST_PAGE_BYTES = 4194304
MOST_CARTOON_BYTES = 131072
TOO_LONG = -6
BROKEN_RULE = -5

NO_PAGE = 1
# How much more is told than a rule's number: of the bytes that a page tells, and of a cartoon that's handed in.
TOLD_RULES = 16
CARTOON_RULES = 32


def refusal(fault, more):
    return [BROKEN_RULE, fault[0] + more, fault[1]]


def judge(workshop):
    """[0] if the bytes are a workshop, else [-5, rule, place]; [-6] if they are too many."""
    if len(workshop) > MOST_WORKSHOP_BYTES:
        return [TOO_LONG]
    fault = workshop_fault(workshop)
    if fault is None:
        return [0]
    return refusal(fault, 0)


def counted(octets):
    return [0, len(octets)] + octets


def printed(workshop):
    """0, how many bytes the workshop's page has, and these; of no workshop what judge answers."""
    answer = judge(workshop)
    if answer[0] < 0:
        return answer
    return counted(page_of(workshop))


def read(text):
    """0, how many bytes the page's workshop has, and these; else [-5, rule, place] or [-6]."""
    if len(text) > MOST_PAGE_BYTES:
        return [TOO_LONG]
    scan = scan_of(text)
    if not scan.is_page():
        return refusal((NO_PAGE, scan.place), 0)
    workshop = workshop_told(scan.rows)
    fault = workshop_fault(workshop)
    if fault is not None:
        return refusal(fault, TOLD_RULES)
    return counted(workshop)


def plan(workshop):
    """0, how many bytes the workshop's cartoon has, and these; of no workshop what judge answers."""
    answer = judge(workshop)
    if answer[0] < 0:
        return answer
    return counted(cartoon_within(workshop))


def with_cartoon(workshop, cartoon):
    """0, how many bytes the workshop with that cartoon has, and these; else [-5, rule, place] or [-6]."""
    # Too many bytes of either come before what's wrong with the workshop.
    if len(cartoon) > MOST_CARTOON_BYTES:
        return [TOO_LONG]
    answer = judge(workshop)
    if answer[0] < 0:
        return answer
    fault = cartoon_fault(cartoon)
    if fault is not None:
        return refusal(fault, CARTOON_RULES)
    return counted(changed_cartoon(workshop, cartoon))
