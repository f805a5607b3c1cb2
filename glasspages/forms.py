"""The lines of a page: each line's word, and the numbers behind it."""

# For each word its numbers, as runs: how many there are, and how many bytes each has.
NUMBER_RUNS = {
    "workshop": (),
    "window": ((2, 4),),
    "point": ((2, 4),),
    "line": ((2, 2),),
    "pane": ((2, 4), (2, 2)),
    "cut": ((5, 4),),
    "lead": ((5, 4),),
    "margin": ((1, 4),),
    "ways": ((1, 4),),
    "shelf": ((1, 8),),
    "sheet": ((4, 4),),
    "kind": ((2, 4),),
    "glass": ((32, 2),),
    "paint": ((32, 2),),
    "coats": ((4, 1),),
    "end": (),
}


def number_sizes(word):
    """How many bytes each number of the word's line has; of coats, the most numbers there may be."""
    sizes = []
    for run in NUMBER_RUNS[word]:
        sizes.extend([run[1]] * run[0])
    return sizes
