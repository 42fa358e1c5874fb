"""Sets as whole numbers: what has the place p is in the set if the bit 1 << p is 1."""


def bits_of(places):
    bits = 0
    for place in places:
        bits |= 1 << place
    return bits


def places_in(bits):
    """Upwards."""
    found = []
    while bits != 0:
        lowest = bits & -bits
        found.append(lowest.bit_length() - 1)
        bits ^= lowest
    return found
