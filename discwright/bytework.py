"""Bytes, bits and checksums (points 2 to 4)."""

from discwright.errors import DifferentLengths


def byte_bits(value):
    """The list of the 8 bits of a byte, the highest one first."""
    return [(value >> shift) & 1 for shift in (7, 6, 5, 4, 3, 2, 1, 0)]


def bits_byte(bits):
    """The byte of 8 bits, the highest one first."""
    value = 0
    for bit in bits:
        value = 2 * value + bit
    return value


def are_bytes(values):
    """True if all values are from 0 to 255."""
    return all([0 <= value <= 255 for value in values])


def exclusive(first, second):
    """The exclusive or of two integers from 0 to 65535."""
    return first ^ second


def crc(values):
    """The CRC of a list of bytes (point 3), a number from 0 to 65535."""
    number = 65535
    for value in values:
        # The eight steps of a byte are done at once, because images are long. Each bit taken out
        # comes back at the places of 4129 = 4096 + 32 + 1; those of the upper four bits that are
        # shifted by 12 places are taken out once more within the same byte.
        taken = (number >> 8) ^ value
        taken = taken ^ (taken >> 4)
        number = ((number << 8) ^ (taken << 12) ^ (taken << 5) ^ taken) & 65535
    return number


def total(values):
    """The sum of a list of bytes modulo 65536."""
    return sum(values) % 65536


def parity(lists):
    """The exclusive or of lists of bytes, place by place."""
    if not lists or any([len(values) != len(lists[0]) for values in lists]):
        raise DifferentLengths("the parity needs lists of one length")
    result = [0] * len(lists[0])
    for values in lists:
        result = [exclusive(one, other) for one, other in zip(result, values)]
    return result


def two_bytes(number):
    """The two bytes of a number from 0 to 65535, the higher one first."""
    return [number // 256, number % 256]


def number_of(values):
    """The number with these bytes, the highest one first."""
    number = 0
    for value in values:
        number = 256 * number + value
    return number
