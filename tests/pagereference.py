"""What read must answer, found slowly and in another way than the program: a text goes on as a page does,
if some piece of an ordinary line, put behind it, makes a line that may stand there."""

import functools
import re

from glasspages.pages import judge
from tests.parts import octets_of

ORDER = re.compile(
    "workshop window( point)*( line)*( pane)* cut lead margin ways shelf"
    "( sheet)*( kind)*( glass)*( paint coats)* end"
)
LEAST_ORDER = "workshop window cut lead margin ways shelf end".split()
LINE = re.compile(rb"([a-z]+)((?: (?:0|[1-9][0-9]*))*)\n")
TWO, FOUR, EIGHT = 2 ** 16 - 1, 2 ** 32 - 1, 2 ** 64 - 1
MOST = {
    "workshop": [], "window": [FOUR] * 2, "point": [FOUR] * 2, "line": [TWO] * 2, "pane": [FOUR, FOUR, TWO, TWO],
    "cut": [FOUR] * 5, "lead": [FOUR] * 5, "margin": [FOUR], "ways": [FOUR], "shelf": [EIGHT],
    "sheet": [FOUR] * 4, "kind": [FOUR] * 2, "glass": [TWO] * 32, "paint": [TWO] * 32, "coats": [255] * 4, "end": [],
}


def line_row(line):
    """The word and the numbers of a line with its end, or None if it's none."""
    match = LINE.fullmatch(line)
    if not match or match[1].decode() not in MOST:
        return None
    word = match[1].decode()
    numbers = [int(digits) for digits in match[2].split()]
    if word == "coats":
        right = 1 <= len(numbers) <= 4
    else:
        right = len(numbers) == len(MOST[word])
    if not right or any(number > most for number, most in zip(numbers, MOST[word])):
        return None
    return [word] + numbers


@functools.lru_cache(maxsize=None)
def order_goes_on(words):
    """Whether lines of these words may be a page's first."""
    behind = [LEAST_ORDER[cut:] for cut in range(len(LEAST_ORDER) + 1)] + [["coats", "end"]]
    return any(ORDER.fullmatch(" ".join(list(words) + more)) for more in behind)


@functools.lru_cache(maxsize=None)
def line_goes_on(start, words):
    """Whether a line of one of the words begins so."""
    for word in words:
        sample = (" ".join([word] + ["0"] * len(MOST[word])) + "\n").encode()
        for cut in sorted(range(len(sample) + 1), key=lambda cut: abs(cut - len(start))):
            row = line_row(start + sample[cut:])
            if row and row[0] in words:
                return True
    return False


def shortened(words):
    """The words without those that tell nothing new of what may stand behind: so they stay few."""
    if words[-2:-1] == words[-1:]:
        return words[:-1]
    return words[:-2] if words[-4:] == ("paint", "coats") * 2 else words


def begun(text):
    """So many of the text's bytes as some page begins with, and the rows of the lines gone past."""
    rows, words, place = [], (), 0
    while place < len(text):
        end = text.find(b"\n", place) + 1 or len(text)
        line = text[place:end]
        row = line_row(line)
        if row is None or not order_goes_on(words + (row[0],)):
            allowed = tuple(word for word in MOST if order_goes_on(words + (word,)))
            count = 0
            while count < len(line) and line_goes_on(line[:count + 1], allowed):
                count += 1
            return place + count, rows
        rows.append(row)
        words = shortened(words + (row[0],))
        place = end
    return place, rows


def parts_of(rows):
    """The parts of a page's rows, as tests/parts.py has them."""
    def numbers(word):
        return [tuple(row[1:]) for row in rows if row[0] == word]

    return {
        "width": numbers("window")[0][0], "height": numbers("window")[0][1],
        "points": numbers("point"), "lines": numbers("line"), "marks": numbers("pane"),
        "numbers": [number for word in ("cut", "lead", "margin", "ways") for number in numbers(word)[0]],
        "shelf": numbers("shelf")[0][0], "sheets": numbers("sheet"), "kinds": numbers("kind"),
        "glasses": numbers("glass"), "paintings": list(zip(numbers("paint"), numbers("coats"))),
    }


def answer(text):
    """What read must answer of the text, as far as judge answers right."""
    place, rows = begun(text)
    if place < len(text) or not rows or rows[-1][0] != "end":
        return [-5, 1, place]
    octets = octets_of(parts_of(rows))
    verdict = judge(octets)
    if verdict == [0]:
        return [0, len(octets)] + octets
    return [-5, verdict[1] + 16, verdict[2]]
