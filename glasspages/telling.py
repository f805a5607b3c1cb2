"""What a page tells: the bytes of its lines' numbers, put where a workshop has them."""

from glasspages.drawing import CARTOON_SIGN
from glasspages.octets import joined, octets_of
from glasspages.workshop import WORKSHOP_SIGN


def count_octets(rows, words, size):
    """How many lines there are of each of the words, in so many bytes each."""
    return joined([octets_of(len(rows[word]), size) for word in words])


def row_octets(rows, words):
    """The bytes of all lines of each of the words."""
    return joined([joined(rows[word]) for word in words])


def cartoon_told(rows):
    octets = list(CARTOON_SIGN) + row_octets(rows, ["window"])
    words = ["point", "line", "pane"]
    return octets + count_octets(rows, words, 2) + [0, 0] + row_octets(rows, words)


def paintings_told(rows):
    octets = []
    for bands, coats in zip(rows["paint"], rows["coats"]):
        octets.extend(bands)
        octets.extend(coats)
    return octets


def workshop_told(rows):
    """The bytes that a page's lines tell; rows has for each word a list with the bytes of each line."""
    cartoon = cartoon_told(rows)
    head = list(WORKSHOP_SIGN) + octets_of(len(cartoon), 4)
    head.extend(row_octets(rows, ["cut", "lead", "margin", "ways"]))
    head.extend(count_octets(rows, ["sheet", "kind", "glass", "paint"], 4))
    head.extend(row_octets(rows, ["shelf"]))
    return head + cartoon + row_octets(rows, ["sheet", "kind", "glass"]) + paintings_told(rows)
