"""The calls. Each answers a list of whole numbers, a refusal's first number below 0."""

from glasspages.printing import page_of
from glasspages.reading import scan_of
from glasspages.telling import workshop_told
from glasspages.workshop import cartoon_within, workshop_fault

MOST_WORKSHOP_BYTES = 1048576
MOST_PAGE_BYTES = 4194304
TOO_LONG = -6
BROKEN_RULE = -5

# The rules of pages: the first, and how much more than a workshop's rule the others are.
NO_PAGE = 1
TOLD_RULES = 16


def judge(workshop):
    """[0] if the bytes are a workshop, else [-5, rule, place]; [-6] if they are too many."""
    if len(workshop) > MOST_WORKSHOP_BYTES:
        return [TOO_LONG]
    fault = workshop_fault(workshop)
    if fault is None:
        return [0]
    return [BROKEN_RULE, fault[0], fault[1]]


def counted(octets):
    return [0, len(octets)] + octets


def printed(workshop):
    """0, how many bytes the workshop's page has, and these; of no workshop what judge answers."""
    answer = judge(workshop)
    if answer[0] < 0:
        return answer
    return counted(page_of(workshop))


def read(text):
    """0, how many bytes the page's workshop has, and these; else [-5, rule, place] or [-6]."""
    if len(text) > MOST_PAGE_BYTES:
        return [TOO_LONG]
    scan = scan_of(text)
    if not scan.is_page():
        return [BROKEN_RULE, NO_PAGE, scan.place]
    workshop = workshop_told(scan.rows)
    fault = workshop_fault(workshop)
    if fault is not None:
        return [BROKEN_RULE, TOLD_RULES + fault[0], fault[1]]
    return counted(workshop)


def plan(workshop):
    """0, how many bytes the workshop's cartoon has, and these; of no workshop what judge answers."""
    answer = judge(workshop)
    if answer[0] < 0:
        return answer
    return counted(cartoon_within(workshop))
