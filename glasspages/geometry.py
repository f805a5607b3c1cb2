"""Points as pairs (x, y), and the lines between them."""


def turn(first, second, third):
    """Above 0 if the way through the three turns left, below 0 if right, 0 if they are in a row."""
    right = (second[0] - first[0]) * (third[1] - second[1])
    return right - (second[1] - first[1]) * (third[0] - second[0])


def is_between(number, one, other):
    """Whether the number lies from the one to the other, both counted in."""
    if one < other:
        return one <= number and number <= other
    return other <= number and number <= one


def is_on(point, start, end):
    """Whether the point is on the line, its ends counted in."""
    # The box is asked first because it is quick and most points lie outside it.
    if not is_between(point[1], start[1], end[1]) or not is_between(point[0], start[0], end[0]):
        return False
    return turn(start, end, point) == 0


def parts(start, end, one, other):
    """Whether the two points lie on either side of the line drawn on without end, neither on it."""
    one_turn = turn(start, end, one)
    if one_turn == 0:
        return False
    other_turn = turn(start, end, other)
    return other_turn != 0 and (one_turn > 0) != (other_turn > 0)


def crosses(start, end, other_start, other_end):
    """Whether two lines that aren't in one row have a point in common that is an end of neither."""
    return parts(start, end, other_start, other_end) and parts(other_start, other_end, start, end)


def comes_behind(later, earlier):
    """Whether a point comes behind another: by y, of one y by x."""
    if later[1] != earlier[1]:
        return later[1] > earlier[1]
    return later[0] > earlier[0]
