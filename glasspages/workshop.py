"""Workshops judged: the first rule that's broken, with its place."""

from glasspages.cartoon import cartoon_fault
from glasspages.octets import number_at, octets_of

WORKSHOP_SIGN = (0x47, 0x4C, 0x41, 0x57)
HEAD_BYTES = 80
SHEET_BYTES = 16
KIND_BYTES = 8
GLASS_BYTES = 64
PAINTING_BYTES = 69
BANDS_BYTES = 64
MOST_COATS = 4

# Each place, the least and the most of the four-byte number there.
HEAD_BOUNDS = (
    (8, 0, 1000),
    (12, 1, 1000),
    (16, 0, 1000),
    (20, 1, 1000),
    (24, 0, 65535),
    (28, 0, 1000),
    (32, 1, 1000),
    (36, 1, 16777215),
    (40, 0, 65535),
    (44, 0, 65535),
    (48, 0, 65535),
    (52, 1, 255),
    (56, 0, 1024),
    (60, 0, 16),
    (64, 0, 256),
    (68, 0, 256),
)

# As in the head, but the places are counted from the sheet's or the kind's first byte.
SHEET_BOUNDS = ((0, 0, 65535), (4, 1, 16777215), (8, 1, 16777215), (12, 0, 1))
KIND_BOUNDS = ((0, 1, 1400), (4, 0, 9999))


def out_of_bounds(workshop, start, bounds):
    """The place of the first number that's out of its bounds, or None."""
    for bound in bounds:
        number = number_at(workshop, start + bound[0], 4)
        if number < bound[1] or number > bound[2]:
            return start + bound[0]
    return None


def part_places(workshop):
    """Where the sheets, the kinds, the glasses and the paintings begin, and where these end."""
    sheets = HEAD_BYTES + number_at(workshop, 4, 4)
    kinds = sheets + SHEET_BYTES * number_at(workshop, 56, 4)
    glasses = kinds + KIND_BYTES * number_at(workshop, 60, 4)
    paintings = glasses + GLASS_BYTES * number_at(workshop, 64, 4)
    end = paintings + PAINTING_BYTES * number_at(workshop, 68, 4)
    return (sheets, kinds, glasses, paintings, end)


def cartoon_within(workshop):
    """The cartoon's bytes, of bytes that are as many as they tell."""
    return workshop[HEAD_BYTES:part_places(workshop)[0]]


def changed_cartoon(workshop, cartoon):
    """The workshop's bytes with another cartoon: how many bytes it has is told anew, all else stays."""
    head = workshop[:4] + octets_of(len(cartoon), 4) + workshop[8:HEAD_BYTES]
    return head + cartoon + workshop[part_places(workshop)[0]:]


def wrong_sheet(workshop, places):
    """Rule 5: the place of the first sheet that may not be, or None."""
    for place in range(places[0], places[1], SHEET_BYTES):
        if out_of_bounds(workshop, place, SHEET_BOUNDS) is not None:
            return place
    return None


def wrong_kind(workshop, places):
    """Rule 6: the place of the first kind that may not be, or None."""
    for place in range(places[1], places[2], KIND_BYTES):
        if out_of_bounds(workshop, place, KIND_BOUNDS) is not None:
            return place
    return None


def is_right_coat(workshop, place, coat, heats):
    """Whether the byte of a coat may be, those of the coats before it being right."""
    kind = workshop[place + 1 + coat]
    if coat >= workshop[place]:
        return kind == 0
    if kind >= len(heats):
        return False
    return coat == 0 or heats[kind] < heats[workshop[place + coat]]


def wrong_coat(workshop, place, heats):
    """What's wrong of the coats of which the place tells how many: its place, or None."""
    if workshop[place] < 1 or workshop[place] > MOST_COATS:
        return place
    for coat in range(MOST_COATS):
        if not is_right_coat(workshop, place, coat, heats):
            return place + 1 + coat
    return None


def wrong_painting(workshop, places):
    """Rule 7: the place of what's wrong of the first painting's coats that may not be, or None."""
    heats = [number_at(workshop, place, 4) for place in range(places[1], places[2], KIND_BYTES)]
    for painting in range(places[3], places[4], PAINTING_BYTES):
        place = wrong_coat(workshop, painting + BANDS_BYTES, heats)
        if place is not None:
            return place
    return None


def head_fault(workshop):
    """(rule, place) of the rules 1 to 3, or None."""
    if len(workshop) < HEAD_BYTES:
        return (1, len(workshop))
    if workshop[:4] != list(WORKSHOP_SIGN):
        return (1, 0)
    place = out_of_bounds(workshop, 0, HEAD_BOUNDS)
    if place is not None:
        return (2, place)
    if len(workshop) != part_places(workshop)[4]:
        return (3, 4)
    return None


def parts_fault(workshop, places):
    """(rule, place) of the rules 4 to 7, or None."""
    fault = cartoon_fault(cartoon_within(workshop))
    if fault is not None:
        return (4, HEAD_BYTES + fault[1])
    for rule, check in enumerate([wrong_sheet, wrong_kind, wrong_painting], start=5):
        place = check(workshop, places)
        if place is not None:
            return (rule, place)
    return None


def workshop_fault(workshop):
    """(rule, place) of the first rule that the bytes break, or None if they are a workshop."""
    fault = head_fault(workshop)
    if fault is not None:
        return fault
    return parts_fault(workshop, part_places(workshop))
