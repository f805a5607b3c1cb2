"""Numbers as bytes, the lowest byte first."""


def number_at(octets, place, size):
    """The number that so many bytes from the place on hold."""
    number = 0
    for octet in reversed(octets[place:place + size]):
        number = number * 256 + octet
    return number
