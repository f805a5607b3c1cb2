"""Cartoons that are right, of several sizes, and what may stand behind one in a workshop."""

from tests.builder import RUN_SHEETS, drawn, frame, glass, painting, path
from tests.large import fan_cartoon, grid
from tests.parts import KINDS

# The run's cartoon, written out by hand from the document's table.
RUN_CARTOON = list(bytes.fromhex(
    "474C4131 1E000000 14000000 0500 0700 0300 0000"
    "00000000 00000000  1E000000 00000000  0A000000 0A000000  00000000 14000000  1E000000 14000000"
    "0000 0100  0000 0200  0000 0300  0100 0200  0100 0400  0200 0300  0300 0400"
    "0F000000 02000000 0500 0000  02000000 0A000000 0600 0000  14000000 0F000000 0700 0000"
))

# Smaller than the run's: the frame alone, 16 wide and high, with one mark.
BARE_CARTOON = list(bytes.fromhex(
    "474C4131 10000000 10000000 0400 0400 0100 0000"
    "00000000 00000000  10000000 00000000  00000000 10000000  10000000 10000000"
    "0000 0100  0000 0200  0100 0300  0200 0300"
    "08000000 08000000 0000 0000"
))

# Larger than the run's: within its frame a point in the middle, joined with the four corners.
SPOKES_CARTOON = list(bytes.fromhex(
    "474C4131 1E000000 14000000 0500 0800 0400 0000"
    "00000000 00000000  1E000000 00000000  0F000000 0A000000  00000000 14000000  1E000000 14000000"
    "0000 0100  0000 0200  0000 0300  0100 0200  0100 0400  0200 0300  0200 0400  0300 0400"
    "0F000000 01000000 0100 0000  01000000 0A000000 0200 0000"
    "1D000000 0A000000 FFFF 0000  0F000000 13000000 0000 FFFF"
))


def small_cartoons():
    """Cartoons of few points, with numbers of more than one byte among them."""
    side = 1048575
    upright = frame(30, 20, (10, 0), (10, 20)) + [((10, 0), (10, 20))]
    return [
        RUN_CARTOON,
        BARE_CARTOON,
        SPOKES_CARTOON,
        drawn(side, side, frame(side, side), [(side - 1, 1, 65535, 65535)]),
        drawn(30, 20, upright, [(5, 5, 1, 256), (15, 6, 0, 0)]),
    ]


def large_cartoons():
    """Cartoons of 200 points, with counts of more than one byte among them."""
    bends = [(0, 10)] + [(x, 5 if x % 2 else 15) for x in range(1, 195)] + [(195, 10)]
    return [
        drawn(195, 20, frame(195, 20, (0, 10), (195, 10)) + path(*bends), [(1, 1), (1, 19)]),
        grid(),
        fan_cartoon(),
    ]


def surroundings():
    """What may stand behind a cartoon: each of the four there or not; paintings need kinds."""
    every = {
        "sheets": RUN_SHEETS, "kinds": KINDS, "glasses": [glass(), glass(1)],
        "paintings": [painting(1, (3, 0, 0, 0)), painting(3, (0, 1, 2, 0), 65535)],
    }
    listed = []
    for number in range(16):
        chosen = {part: every[part] for index, part in enumerate(every) if number >> index & 1}
        if "kinds" in chosen or "paintings" not in chosen:
            listed.append(chosen)
    return listed


def cartoons_and_surroundings():
    """Each small cartoon with all there may be behind it, each large one with nothing and with everything."""
    around = surroundings()
    listed = [(planned, parts) for planned in small_cartoons() for parts in around]
    return listed + [(planned, parts) for planned in large_cartoons() for parts in (around[0], around[-1])]
