"""Numbers told in bytes, the lowest first."""


def low_first(number, size):
    """The bytes that tell a number in so many of them."""
    told = []
    rest = number
    while len(told) < size:
        told.append(rest & 255)
        rest = rest >> 8
    return told


def number_of(told):
    """The number that these bytes tell."""
    number = 0
    for byte in reversed(told):
        number = (number << 8) | byte
    return number
