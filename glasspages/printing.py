"""Workshops printed: the lines of a page, drawn from where their numbers lie in the bytes."""

from glasspages.drawing import row_places
from glasspages.forms import number_sizes
from glasspages.octets import number_at
from glasspages.workshop import BANDS_BYTES, PAINTING_BYTES, cartoon_within, part_places


def line_of(word, numbers):
    return " ".join([word] + [str(number) for number in numbers]) + "\n"


def numbers_at(octets, place, sizes):
    """The numbers of these sizes that lie one behind the other from the place on."""
    numbers = []
    start = place
    for size in sizes:
        numbers.append(number_at(octets, start, size))
        start += size
    return numbers


def lines_within(octets, word, start, end):
    """The lines of that word whose numbers fill the bytes from the start to the end."""
    sizes = number_sizes(word)
    return [line_of(word, numbers_at(octets, place, sizes)) for place in range(start, end, sum(sizes))]


def cartoon_lines(cartoon):
    places = row_places(cartoon)
    lines = lines_within(cartoon, "window", 4, 12)
    lines.extend(lines_within(cartoon, "point", places[0], places[1]))
    lines.extend(lines_within(cartoon, "line", places[1], places[2]))
    lines.extend(lines_within(cartoon, "pane", places[2], places[3]))
    return lines


def head_lines(workshop):
    """The lines of the numbers that every workshop has once."""
    lines = lines_within(workshop, "cut", 8, 28)
    lines.extend(lines_within(workshop, "lead", 28, 48))
    lines.extend(lines_within(workshop, "margin", 48, 52))
    lines.extend(lines_within(workshop, "ways", 52, 56))
    lines.extend(lines_within(workshop, "shelf", 72, 80))
    return lines


def painting_lines(workshop, start, end):
    lines = []
    for place in range(start, end, PAINTING_BYTES):
        coats = place + BANDS_BYTES
        lines.extend(lines_within(workshop, "paint", place, coats))
        # What is behind the coats is 0 in every workshop, so the page needn't tell it.
        lines.append(line_of("coats", workshop[coats + 1:coats + 1 + workshop[coats]]))
    return lines


def page_of(workshop):
    """The page of bytes that are a workshop."""
    places = part_places(workshop)
    lines = [line_of("workshop", [])]
    lines.extend(cartoon_lines(cartoon_within(workshop)))
    lines.extend(head_lines(workshop))
    lines.extend(lines_within(workshop, "sheet", places[0], places[1]))
    lines.extend(lines_within(workshop, "kind", places[1], places[2]))
    lines.extend(lines_within(workshop, "glass", places[2], places[3]))
    lines.extend(painting_lines(workshop, places[3], places[4]))
    lines.append(line_of("end", []))
    return [ord(sign) for sign in "".join(lines)]
