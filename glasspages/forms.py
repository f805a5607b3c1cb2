"""The lines of a page: each line's word, the numbers behind it, and which lines follow one another."""

# For each word its numbers, as runs: how many there are, and how many bytes each has.
NUMBER_RUNS = {
    "workshop": (),
    "window": ((2, 4),),
    "point": ((2, 4),),
    "line": ((2, 2),),
    "pane": ((2, 4), (2, 2)),
    "cut": ((5, 4),),
    "lead": ((5, 4),),
    "margin": ((1, 4),),
    "ways": ((1, 4),),
    "shelf": ((1, 8),),
    "sheet": ((4, 4),),
    "kind": ((2, 4),),
    "glass": ((32, 2),),
    "paint": ((32, 2),),
    "coats": ((4, 1),),
    "end": (),
}

# For each word those with which the line behind it may begin; for the empty one, those of the first line.
FOLLOWERS = {
    "": ("workshop",),
    "workshop": ("window",),
    "window": ("point", "line", "pane", "cut"),
    "point": ("point", "line", "pane", "cut"),
    "line": ("line", "pane", "cut"),
    "pane": ("pane", "cut"),
    "cut": ("lead",),
    "lead": ("margin",),
    "margin": ("ways",),
    "ways": ("shelf",),
    "shelf": ("sheet", "kind", "glass", "paint", "end"),
    "sheet": ("sheet", "kind", "glass", "paint", "end"),
    "kind": ("kind", "glass", "paint", "end"),
    "glass": ("glass", "paint", "end"),
    "paint": ("coats",),
    "coats": ("paint", "end"),
    "end": (),
}

# The words of which there may only be so many lines; of the others no page that's read has too many.
MOST_LINES = {"point": 65535, "line": 65535, "pane": 65535}


def number_sizes(word):
    """How many bytes each number of the word's line has; of coats, the most numbers there may be."""
    sizes = []
    for run in NUMBER_RUNS[word]:
        sizes.extend([run[1]] * run[0])
    return sizes
