"""Numbers as bytes, the lowest byte first."""

# For each size of a number, in bytes, the largest there is.
LARGEST = {1: 255, 2: 65535, 4: 4294967295, 8: 18446744073709551615}


def number_at(octets, place, size):
    """The number that so many bytes from the place on hold."""
    number = 0
    for octet in reversed(octets[place:place + size]):
        number = number * 256 + octet
    return number


def octets_of(number, size):
    """The number in so many bytes."""
    octets = []
    rest = number
    while len(octets) < size:
        octets.append(rest % 256)
        rest = rest // 256
    return octets


def joined(rows):
    """The bytes of all rows, one row behind the other."""
    octets = []
    for row in rows:
        octets.extend(row)
    return octets
