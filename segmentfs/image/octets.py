"""Numbers in several octets, the lowest octet first."""


def number_octets(number, count):
    """Return the lowest octets of the number, so many as told."""
    return [(number >> (8 * place)) & 255 for place in range(count)]


def number_of(octets):
    """Return the number that the octets stand for."""
    number = 0
    for octet in reversed(octets):
        number = number * 256 + octet
    return number
